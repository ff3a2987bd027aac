import Derived.Test.YtefpamchdheldaaGreatDoorRdAJ
import Derived.Test.YtefpamchdheldaaGreatDoorTarnSoundJ
set_option maxRecDepth 100000
set_option maxHeartbeats 16000000
namespace Go.Proofs.YtefpamchdheldaaGreatDoor
open Go.RowKit Go.Sort
def DecA(adr:Nat->Addr)(w:World)(lo:Nat)(v x:Value)(d:Except (Int×Int×Int) LObj):Prop:=
 match d with
 |.error (c,k,i)=>v=objZ∧∃j,(1<=j∧j<19)∧x=errF (adr j) k i∧kCode j=c
 |.ok O=>x=.nilIface∧ObjO w lo v O
def DecO(s:ByteArray)(adr:Nat->Addr)(w:World)(e:Ending)(w':World):Prop:=Below w.heap.size w w'∧∃v x,e=.returned (.tuple #[v,x])∧DecA adr w' w.heap.size v x (docD s)
theorem eIx_ok{c:Nat}(h:CE c):(1<=eIx c∧eIx c<19)∧kCode (eIx c)=(c:Int):=by
 unfold CE at h;rcases h with rfl|rfl|rfl|rfl|rfl|rfl;all_goals exact⟨by decide,rfl⟩
theorem SentAt.long{w:World}{adr:Nat->Addr}(h:SentAt w adr):w.cell? ⟨0,0,none⟩=some (.iface 185 (.pointer (some (adr 4)))):=h.c 4 (by omega)
theorem SentAt.short{w:World}{adr:Nat->Addr}(h:SentAt w adr):w.cell? ⟨1,0,none⟩=some (.iface 185 (.pointer (some (adr 6)))):=h.c 6 (by omega)
theorem SentAt.sum{w:World}{adr:Nat->Addr}(h:SentAt w adr):w.cell? ⟨2,0,none⟩=some (.iface 185 (.pointer (some (adr 7)))):=h.c 7 (by omega)
theorem decErr{s:ByteArray}{adr:Nat->Addr}{w w':World}{c k i:Int}{j:Nat}(hd:docD s=.error (c,k,i))(hj:1<=j∧j<19)(hc:kCode j=c)(hb:Below w.heap.size w w'):DecO s adr w (.returned (.tuple #[.agg #[.string ⟨#[]⟩,.slice none 0 0,.slice none 0 0],.iface 88 (.agg #[.iface 185 (.pointer (some (adr j))),.int .i64 k,.int .i64 i])])) w':=by
 refine⟨hb,_,_,rfl,?_⟩;rw[hd];exact⟨rfl,j,hj,rfl,hc⟩
theorem objDecode_any(s:ByteArray)(adr:Nat->Addr)(w:World)(hT:TabAt w)(hS:SentAt w adr):
 Calls Tryz.prog 12 #[.string s] w λe w'=>DecO s adr w e w':=by
 have HT:=hid hT;have HSE:=hid hS;have HBA:Hid (∀o:Obj,Below w.heap.size w (w.alloc o)):=λo=>(Below.refl _ _).alloc (Nat.le_refl _) o;clear hT hS;by_cases h1:100000<s.size
 ·have HD:=hid (docD_long h1);have h1':(100000:Int)<(s.size:Int):=by omega
  have x4:=HSE.out.long;have l4:0<w.heap.size:=block_lt_of_cell x4;go_enter Tryz.func12,Tryz.ntmps12;go_wp2_with (first
   |(go_at_call 20;refine(fAt_any _ _ _ _).mono ?_;rintro e w2 ⟨rfl,rfl⟩))
  refine bodyPost_ret (v:=.tuple #[.agg #[.string ⟨#[]⟩,.slice none 0 0,.slice none 0 0],.iface 88 (.agg #[.iface 185 (.pointer (some (adr 4))),.int .i64 0,.int .i64 0])]) (by simp[results,Tryz.results12,go_sem]) rfl ?_;exact decErr HD.out (by omega) rfl (HBA.out _)
 ·by_cases h2:s.size<8
  ·have HD:=hid (docD_short h1 h2);have h1':¬(100000:Int)<(s.size:Int):=by omega
   have h2':(s.size:Int)<8:=by omega
   have x6:=HSE.out.short;have l6:1<w.heap.size:=block_lt_of_cell x6;go_enter Tryz.func12,Tryz.ntmps12;go_wp2_with (first
    |(go_at_call 20;refine(fAt_any _ _ _ _).mono ?_;rintro e w2 ⟨rfl,rfl⟩))
   refine bodyPost_ret (v:=.tuple #[.agg #[.string ⟨#[]⟩,.slice none 0 0,.slice none 0 0],.iface 88 (.agg #[.iface 185 (.pointer (some (adr 6))),.int .i64 0,.int .i64 (s.size:Int)])]) (by simp[results,Tryz.results12,go_sem]) rfl ?_;exact decErr HD.out (by omega) rfl (HBA.out _)
  ·have h1':¬(100000:Int)<(s.size:Int):=by omega
   have h2':¬(s.size:Int)<8:=by omega
   have h3':(0:Int)<=(s.size:Int)-4:=by omega
   have h4':(s.size:Int)-4<=(s.size:Int):=by omega
   have HSUM:=hid (sum_iff (s:=s) (by omega));obtain⟨B,hB⟩:∃B,B=bodyOf s:=⟨_,rfl⟩;have hBs:B.size=s.size-4:=by rw[hB];unfold bodyOf;rw[ByteArray.size_extract];omega
   have HST:=hid (λw=>sumTxt_any B w (by omega));have HE:Hid (s.extract 0 (s.size-4)=B):=hB.symm;have hN4:((s.size:Int)-4).toNat=s.size-4:=by omega
   have HE2:Hid (s.extract 0 ((s.size:Int)-4).toNat=B):=by show _=_;rw[hN4];exact hB.symm
   have HN4:=hid hN4;clear hN4;rw[<-hB]at HSUM;have HBO:=hid hB;clear hB;go_enter Tryz.func12,Tryz.ntmps12;go_upto_region 6 with fail
   have HR0:=hid (Bx3.new w (.string ⟨#[]⟩) (.slice none 0 0) (.slice none 0 0) 33);have HB0:=hid (HBA.out (Obj.cells #[.string ⟨#[]⟩,.slice none 0 0,.slice none 0 0] 33));generalize w.alloc (Obj.cells #[.string ⟨#[]⟩,.slice none 0 0,.slice none 0 0] 33)=W1 at*;go_cut [32] (λc wx=>c=.bool (!((s.extract (s.size-4) s.size).toList==(sumS B).toList))∧Hid (Below W1.heap.size W1 wx))
   case first=>
    go_region_with ((go_at_call 21;(first|rw[HE.out]|rw[HE2.out]);refine(HST.out _).mono ?_;rintro e w1 ⟨rfl,hb1⟩;have HB1:=hid hb1;clear hb1))
    all_goals go_wp2_with fail
    all_goals go_meet
    all_goals exact⟨by first|rfl|rw[HN4.out],((Below.refl _ _).drew).trans HB1.out⟩
   case rest=>
    obtain⟨rfl,HB1⟩:=hcut;rename World=>w1
    have HR1:=hid (HR0.out.keep HB1.out);have HBW:Hid (Below w.heap.size w w1):=HB0.out.trans (HB1.out.mono HB0.out.size);have hw1:w.heap.size<w1.heap.size:=HR1.out.lt;obtain⟨r0,r1,r2,k0,k1,k2⟩:=id HR1.out;have HEI:Hid (s.size-4<s.size):=by show _<_;omega
    clear HR0 HB0 HB1 HBA HST;by_cases hsum:sumIs s
    ·have hcmp:((s.extract (s.size-4) s.size).toList==(sumS B).toList)=true:=by rw[HSUM.out.2 hsum];exact beq_self_eq_true _
     rw[hcmp];have HSI:=hid hsum;clear hsum hcmp HSUM;have HSB:Hid (B.size<=100000):=by show _<=_;omega
     have HBL:Hid (Below w1.heap.size w1 (w1.alloc (Obj.cells #[.string B,.int .i64 0] 83))):=(Below.refl _ _).alloc (Nat.le_refl _) _;have HOB:=hid (rdObj_any (W:=w) (w:=w1.alloc (Obj.cells #[.string B,.int .i64 0] 83)) (E:=w1.heap.size) (adr:=adr) (s:=B) (by omega) (by omega) ⟨HSE.out,HT.out,HBW.out.trans (HBL.out.mono HBW.out.size),HBW.out.size⟩ ⟨by simp,by simp,by simp⟩);match hro:rdObj B with
     |.error (c,a)=>
      have HD:=hid (docD_err h1 h2 HSI.out (by rw[<-HBO.out];exact hro));have HRO:=hid hro;have HCE:=hid (rdObj_err hro);clear hro;go_wp2_with (first
       |(go_at_call 22;rw[HE.out];refine HOB.out.mono ?_;rintro e w3 hr;obtain⟨v,rfl,rfl,hE3,hB3⟩:=hr.isErr HRO.out;unfold objZ;have HR3:=hid ((HR1.out.keep HBL.out).ef hE3 (by omega));have HB3:Hid (Below w.heap.size w w3):=hB3.b;obtain⟨R0,R1,R2,K0,K1,K2⟩:=id HR3.out;have hw3:w.heap.size<w3.heap.size:=HR3.out.lt;clear hr hE3 hB3))
      obtain⟨s0,s1,s2,-,-,-⟩:=(HR3.out.put (.string ⟨#[]⟩) (.slice none 0 0) (.slice none 0 0)).keep ((Below.refl _ _).alloc (Nat.le_refl _) (Obj.cells #[.string ⟨#[]⟩,.slice none 0 0,.slice none 0 0] 33));refine bodyPost_ret (v:=.tuple #[.agg #[.string ⟨#[]⟩,.slice none 0 0,.slice none 0 0],.iface 88 (.agg #[.iface 185 (.pointer (some (adr (eIx c)))),.int .i64 0,.int .i64 (a:Int)])]) (by simp[results,Tryz.results12,go_sem,s0,s1,s2]) rfl ?_;exact decErr HD.out (eIx_ok HCE.out).1 (eIx_ok HCE.out).2 ((((HB3.out.setCell (Nat.le_refl _) _).setCell (Nat.le_refl _) _).setCell (Nat.le_refl _) _).alloc (by have:=HB3.out.size;simp;omega) _)
     |.ok (O,q)=>
      have HRO:=hid hro;have HFI:=hid (rdObj_ok hro);obtain⟨SB,hsb⟩:∃SB,sBad (O.imps.length+O.globs.length) O.globs 0=SB:=⟨_,rfl⟩;have HSBB:=hid hsb;cases SB with
      |some x=>
       obtain⟨ee,kk,ii⟩:=x;have HD:=hid (docD_bad h1 h2 HSI.out (by rw[<-HBO.out];exact hro) hsb);have HLE:=hid (sBad_le _ _ hsb);clear hro hsb;go_wp2_with (first
        |(go_at_call 22;rw[HE.out];refine HOB.out.mono ?_;rintro e w3 hr;obtain⟨v,rfl,hO3,hS3,hq3,hE3,hB3⟩:=hr.isOk HRO.out;have hof3:=HFI.out.1;have HOA:=hid (ObjO.at hO3 hof3 HSB.out);obtain⟨ip,il,ic,gp,gl,gc,mid,G,rfl,hI,hm,hl,hG,he⟩:=hO3.own;obtain⟨iv',gv',hev,-,hIA,hGA⟩:=id HOA.out;simp only[Value.agg.injEq,Array.mk.injEq,List.cons.injEq,true_and,and_true]at hev;obtain⟨rfl,rfl⟩:=hev;have HIA:=hid hIA;have HGA:=hid hGA;have HO3:=hid hO3;have HR3:=hid ((HR1.out.keep HBL.out).ef hE3 (by omega));have HB3:Hid (Below w.heap.size w w3):=hB3.b;have HTA:=hid (HT.out.keep hB3.b);have HSA:=hid (HSE.out.keep hB3.b);have hw3:w.heap.size<w3.heap.size:=HR3.out.lt;have HSD:Hid (∀w',Below w3.heap.size w3 w'->Calls Tryz.prog 23 #[.agg #[.string O.name,.slice ip il ic,.slice gp gl gc]] w' λe w''=>e=.returned (.iface 88 (.agg #[.iface 185 (.pointer (some (adr (ee+1)))),.int .i64 (kk:Int),.int .i64 (ii:Int)]))∧Below w'.heap.size w' w''):=(λw' hb=>by have h:=objSound_any adr O.name _ _ O.imps O.globs w' (hIA.keep hb) (hGA.keep hb) hof3.good (HTA.out.keep hb) (HSA.out.keep hb);rw[HSBB.out]at h;exact h);clear hr hO3 hS3 hE3 hB3 hI hm hl hG he hIA hGA)
        |(go_at_call 23;refine(HSD.out _ ((Below.refl _ _).alloc (Nat.le_refl _) _)).mono ?_;rintro e w4 ⟨rfl,hb4⟩;have hb34:=((Below.refl w3.heap.size w3).alloc (Nat.le_refl _) (Obj.cells #[.string O.name,.slice ip il ic,.slice gp gl gc] 33)).trans (hb4.mono (by simp));have HB34:=hid hb34;have HR4:=hid (HR3.out.keep hb34);have HO4:=hid ((Bx3.new w3 (.string O.name) (.slice ip il ic) (.slice gp gl gc) 33).keep hb4);obtain⟨R0,R1,R2,K0,K1,K2⟩:=id HR4.out;obtain⟨O0,O1,O2,L0,L1,L2⟩:=id HO4.out;have hw4:w.heap.size<w4.heap.size:=HR4.out.lt;have hw5:w3.heap.size<w4.heap.size:=HO4.out.lt;clear hb4 hb34 HSD))
       obtain⟨s0,s1,s2,-,-,-⟩:=HR4.out.put (.string ⟨#[]⟩) (.slice none 0 0) (.slice none 0 0);refine bodyPost_ret (v:=.tuple #[.agg #[.string ⟨#[]⟩,.slice none 0 0,.slice none 0 0],.iface 88 (.agg #[.iface 185 (.pointer (some (adr (ee+1)))),.int .i64 (kk:Int),.int .i64 (ii:Int)])]) (by simp[results,Tryz.results12,go_sem,s0,s1,s2]) rfl ?_;exact decErr HD.out (by have:=HLE.out;omega) (kCode_next HLE.out) ((((HB3.out.trans (HB34.out.mono HB3.out.size)).setCell (Nat.le_refl _) _).setCell (Nat.le_refl _) _).setCell (Nat.le_refl _) _)
      |none=>
       have HD:=hid (docD_ok h1 h2 HSI.out (by rw[<-HBO.out];exact hro) hsb);clear hro hsb;go_wp2_with (first
        |(go_at_call 22;rw[HE.out];refine HOB.out.mono ?_;rintro e w3 hr;obtain⟨v,rfl,hO3,hS3,hq3,hE3,hB3⟩:=hr.isOk HRO.out;have hof3:=HFI.out.1;have HOA:=hid (ObjO.at hO3 hof3 HSB.out);obtain⟨ip,il,ic,gp,gl,gc,mid,G,rfl,hI,hm,hl,hG,he⟩:=hO3.own;obtain⟨iv',gv',hev,-,hIA,hGA⟩:=id HOA.out;simp only[Value.agg.injEq,Array.mk.injEq,List.cons.injEq,true_and,and_true]at hev;obtain⟨rfl,rfl⟩:=hev;have HIA:=hid hIA;have HGA:=hid hGA;have HO3:=hid hO3;have HR3:=hid ((HR1.out.keep HBL.out).ef hE3 (by omega));have HB3:Hid (Below w.heap.size w w3):=hB3.b;have HTA:=hid (HT.out.keep hB3.b);have HSA:=hid (HSE.out.keep hB3.b);have hw3:w.heap.size<w3.heap.size:=HR3.out.lt;have HSD:Hid (∀w',Below w3.heap.size w3 w'->Calls Tryz.prog 23 #[.agg #[.string O.name,.slice ip il ic,.slice gp gl gc]] w' λe w''=>e=.returned (.nilIface)∧Below w'.heap.size w' w''):=(λw' hb=>by have h:=objSound_any adr O.name _ _ O.imps O.globs w' (hIA.keep hb) (hGA.keep hb) hof3.good (HTA.out.keep hb) (HSA.out.keep hb);rw[HSBB.out]at h;exact h);clear hr hO3 hS3 hE3 hB3 hI hm hl hG he hIA hGA)
        |(go_at_call 23;refine(HSD.out _ ((Below.refl _ _).alloc (Nat.le_refl _) _)).mono ?_;rintro e w4 ⟨rfl,hb4⟩;have hb34:=((Below.refl w3.heap.size w3).alloc (Nat.le_refl _) (Obj.cells #[.string O.name,.slice ip il ic,.slice gp gl gc] 33)).trans (hb4.mono (by simp));have HB34:=hid hb34;have HR4:=hid (HR3.out.keep hb34);have HO4:=hid ((Bx3.new w3 (.string O.name) (.slice ip il ic) (.slice gp gl gc) 33).keep hb4);obtain⟨R0,R1,R2,K0,K1,K2⟩:=id HR4.out;obtain⟨O0,O1,O2,L0,L1,L2⟩:=id HO4.out;have hw4:w.heap.size<w4.heap.size:=HR4.out.lt;have hw5:w3.heap.size<w4.heap.size:=HO4.out.lt;clear hb4 hb34 HSD))
       obtain⟨s0,s1,s2,-,-,-⟩:=HR4.out.put (.string O.name) (.slice ip il ic) (.slice gp gl gc);refine bodyPost_ret (v:=.tuple #[.agg #[.string O.name,.slice ip il ic,.slice gp gl gc],.nilIface]) (by simp[results,Tryz.results12,go_sem,s0,s1,s2]) rfl ?_;refine⟨(((HB3.out.trans (HB34.out.mono HB3.out.size)).setCell (Nat.le_refl _) _).setCell (Nat.le_refl _) _).setCell (Nat.le_refl _) _,_,_,rfl,?_⟩;rw[HD.out];refine⟨rfl,(HO3.out.off (bs:=[w.heap.size]) ((Off.of_below HB34.out).trans (puts3 w4 w.heap.size _ _ _)) (by simp;omega)).low (by simp;omega)⟩
    ·have hcmp:((s.extract (s.size-4) s.size).toList==(sumS B).toList)=false:=by
      rw[beq_eq_false_iff_ne,ByteArray.toList_eq,ByteArray.toList_eq];intro h;exact hsum (HSUM.out.1 (ByteArray.ext (Array.toList_inj.1 h)))
     rw[hcmp];have HD:=hid (docD_sum h1 h2 hsum);rw[show(((s.size-4:Nat)):Int)=(s.size:Int)-4 by omega]at HD;have x7:=(HSE.out.keep HBW.out).sum;have l7:2<w1.heap.size:=block_lt_of_cell x7;clear hsum hcmp HSUM;go_wp2_with (first
      |(go_at_call 20;refine(fAt_any _ _ _ _).mono ?_;rintro e w2 ⟨rfl,rfl⟩))
     obtain⟨s0,s1,s2,-,-,-⟩:=HR1.out.put (.string ⟨#[]⟩) (.slice none 0 0) (.slice none 0 0);refine bodyPost_ret (v:=.tuple #[.agg #[.string ⟨#[]⟩,.slice none 0 0,.slice none 0 0],.iface 88 (.agg #[.iface 185 (.pointer (some (adr 7))),.int .i64 0,.int .i64 ((s.size:Int)-4)])]) (by simp[results,Tryz.results12,go_sem,s0,s1,s2]) rfl ?_;exact decErr HD.out (by omega) rfl (((HBW.out.setCell (Nat.le_refl _) _).setCell (Nat.le_refl _) _).setCell (Nat.le_refl _) _)
def DecT(w:World)(lo:Nat)(v:Value)(c k i:Int)(d:Except (Int×Int×Int) LObj):Prop:=
 match d with
 |.error (c',k',i')=>c=c'∧k=k'∧i=i'∧v=objZ
 |.ok O=>c=0∧k=0∧i=0∧ObjO w lo v O
theorem DecA.open{adr:Nat->Addr}{w:World}{lo:Nat}{v x:Value}{d:Except (Int×Int×Int) LObj}(h:DecA adr w lo v x d)(hS:SentAt w adr):∃(nm:ByteArray) (ip:Option Addr) (il ic:Nat) (gp:Option Addr) (gl gc:Nat),v=.agg #[.string nm,.slice ip il ic,.slice gp gl gc]∧∃c k i,Told w x c k i∧DecT w lo v c k i d:=by
 match d,h with
 |.error (c,k,i),h=>
  obtain⟨rfl,j,hj,rfl,hc⟩:=h;refine⟨_,_,_,_,_,_,_,rfl,c,k,i,?_,rfl,rfl,rfl,rfl⟩;rw[<-hc];exact told_fault hS j hj k i
 |.ok O,h=>
  obtain⟨rfl,hO⟩:=h;obtain⟨ip,il,ic,gp,gl,gc,mid,G,rfl,-⟩:=hO.own;exact⟨_,_,_,_,_,_,_,rfl,0,0,0,told_nil w,rfl,rfl,rfl,hO⟩
theorem DecT.off{w w':World}{lo:Nat}{v:Value}{c k i:Int}{d:Except (Int×Int×Int) LObj}(h:DecT w lo v c k i d){bs:List Nat}(ho:Off bs w w')(hn:∀b∈bs,b<lo∨w.heap.size<=b):DecT w' lo v c k i d:=by
 match d,h with
 |.error (c',k',i'),h=>exact h
 |.ok O,⟨h1,h2,h3,h4⟩=>exact⟨h1,h2,h3,h4.off ho hn⟩
theorem DecT.low{w:World}{lo lo':Nat}{v:Value}{c k i:Int}{d:Except (Int×Int×Int) LObj}(h:DecT w lo v c k i d)(hl:lo'<=lo):DecT w lo' v c k i d:=by
 match d,h with
 |.error (c',k',i'),h=>exact h
 |.ok O,⟨h1,h2,h3,h4⟩=>exact⟨h1,h2,h3,h4.low hl⟩
def TDec(s:ByteArray)(w:World)(e:Ending)(w':World):Prop:=Below w.heap.size w w'∧∃(nm:ByteArray) (ip:Option Addr) (il ic:Nat) (gp:Option Addr) (gl gc:Nat) (c k i:Int),e=.returned (.tuple #[.agg #[.string nm,.slice ip il ic,.slice gp gl gc],.int .i64 c,.agg #[.int .i64 k,.int .i64 i]])∧DecT w' w.heap.size (.agg #[.string nm,.slice ip il ic,.slice gp gl gc]) c k i (docD s)
theorem two2(w:World):
 Below w.heap.size w ((w.alloc (Obj.cells #[.string ⟨#[]⟩,.slice none 0 0,.slice none 0 0] 33)).alloc (Obj.cells #[.int .i64 0,.int .i64 0] 36))∧
 Bx3 ((w.alloc (Obj.cells #[.string ⟨#[]⟩,.slice none 0 0,.slice none 0 0] 33)).alloc (Obj.cells #[.int .i64 0,.int .i64 0] 36)) w.heap.size (.string ⟨#[]⟩) (.slice none 0 0) (.slice none 0 0)∧
 Bx2 ((w.alloc (Obj.cells #[.string ⟨#[]⟩,.slice none 0 0,.slice none 0 0] 33)).alloc (Obj.cells #[.int .i64 0,.int .i64 0] 36)) (w.heap.size+1) (.int .i64 0) (.int .i64 0):=by
 refine⟨((Below.refl _ _).alloc (Nat.le_refl _) _).alloc (by simp) _,(Bx3.new w _ _ _ _).keep ((Below.refl _ _).alloc (Nat.le_refl _) _),?_⟩;have h:=Bx2.new (w.alloc (Obj.cells #[.string ⟨#[]⟩,.slice none 0 0,.slice none 0 0] 33)) (.int .i64 0) (.int .i64 0) 36;rw[show(w.alloc (Obj.cells #[.string ⟨#[]⟩,.slice none 0 0,.slice none 0 0] 33)).heap.size=w.heap.size+1 by simp]at h;exact h
theorem tarnDecode_any(s:ByteArray)(adr:Nat->Addr)(w:World)(hT:TabAt w)(hS:SentAt w adr):
 Calls Tryz.prog 5 #[.string s] w λe w'=>TDec s w e w':=by
 obtain⟨hb0,hr0,hp0⟩:=two2 w;have HB0:=hid hb0;have HR0:=hid hr0;have HP0:=hid hp0;have HOD:=hid (objDecode_any s adr _ (hT.keep hb0) (hS.keep hb0));have HSE:=hid hS;have hsz:((w.alloc (Obj.cells #[.string ⟨#[]⟩,.slice none 0 0,.slice none 0 0] 33)).alloc (Obj.cells #[.int .i64 0,.int .i64 0] 36)).heap.size=w.heap.size+2:=by simp
 have HSZ:=hid hsz;clear hT hS hb0 hr0 hp0 hsz;go_enter Tryz.func5,Tryz.ntmps5;go_wp2_with (first
  |(go_at_call 12;refine HOD.out.mono ?_;rintro e w1 hr;obtain⟨hb1,v,x,rfl,hA⟩:=hr;obtain⟨nm,ip,il,ic,gp,gl,gc,rfl,c,k,i,hTo,hD⟩:=hA.open ((HSE.out.keep HB0.out).keep hb1);have HTO:=hid hTo;have HD:=hid hD;have HB1:=hid hb1;have HR1:=hid (HR0.out.keep hb1);have HP1:=hid (HP0.out.of_block (hb1.block _ HP0.out.lt));clear hb1 hA hTo hD HOD))
 have hw1:w.heap.size+1<w1.heap.size:=HP1.out.lt;have HX:=hid ((Below.refl w1.heap.size w1).alloc (Nat.le_refl _) (Obj.cells #[.string nm,.slice ip il ic,.slice gp gl gc] 33));have HRX:=hid (HR1.out.keep HX.out);have HPX:=hid (HP1.out.of_block (HX.out.block _ HP1.out.lt));have HOX:=hid (Bx3.new w1 (.string nm) (.slice ip il ic) (.slice gp gl gc) 33);generalize w1.alloc (Obj.cells #[.string nm,.slice ip il ic,.slice gp gl gc] 33)=X at*;obtain⟨r0,r1,r2,k0,k1,k2⟩:=id HRX.out;obtain⟨p0,p1,t0,t1⟩:=id HPX.out;obtain⟨o0,o1,o2,l0,l1,l2⟩:=id HOX.out;have hwx:w1.heap.size<X.heap.size:=HOX.out.lt;have hwx1:w.heap.size<X.heap.size:=HRX.out.lt;have hwx2:w.heap.size+1<X.heap.size:=HPX.out.lt;have HXD:Hid (Below X.heap.size X X.drew):=(Below.refl _ _).drew;go_region_with (first
  |(go_at_call 13;refine(HTO.out.kind _ (HX.out.trans (HXD.out.mono HX.out.size))).mono ?_;rintro e w2 ⟨rfl,hb2⟩;have HB2:Hid (Below X.heap.size X w2):=HXD.out.trans hb2;have HR2:=hid (HRX.out.keep HB2.out);have HP2:=hid (HPX.out.of_block (HB2.out.block _ HPX.out.lt));have HO2:=hid (HOX.out.keep HB2.out);obtain⟨ra0,ra1,ra2,ka0,ka1,ka2⟩:=id HR2.out;obtain⟨pa0,pa1,ta0,ta1⟩:=id HP2.out;obtain⟨oa0,oa1,oa2,la0,la1,la2⟩:=id HO2.out;clear hb2)
  |(go_at_call 14;refine(HTO.out.place _ (HX.out.trans (HB2.out.mono HX.out.size))).mono ?_;rintro e w3 ⟨rfl,hb3⟩;have HB3:Hid (Below X.heap.size X w3):=HB2.out.trans (hb3.mono HB2.out.size);have HR3:=hid (HRX.out.keep HB3.out);have HP3:=hid (HPX.out.of_block (HB3.out.block _ HPX.out.lt));have HO3:=hid (HOX.out.keep HB3.out);obtain⟨rb0,rb1,rb2,kb0,kb1,kb2⟩:=id HR3.out;obtain⟨pb0,pb1,tb0,tb1⟩:=id HP3.out;obtain⟨ob0,ob1,ob2,lb0,lb1,lb2⟩:=id HO3.out;clear hb3))
 all_goals go_wp2
 all_goals(obtain⟨s0,s1,s2,s3,s4⟩:=fin5_cells HR3.out HP3.out (by omega) (.string nm) (.slice ip il ic) (.slice gp gl gc) (.int .i64 k) (.int .i64 i);unfold fin5 at s0 s1 s2 s3 s4)
 all_goals refine bodyPost_ret (v:=.tuple #[.agg #[.string nm,.slice ip il ic,.slice gp gl gc],.int .i64 c,.agg #[.int .i64 k,.int .i64 i]]) (by simp[results,Tryz.results5,go_sem,s0,s1,s2,s3,s4]) rfl ?_
 all_goals(have hb13:=HX.out.trans (HB3.out.mono HX.out.size);have hbw:=HB0.out.trans (HB1.out.mono HB0.out.size))
 all_goals refine⟨fin5_below (hbw.trans (hb13.mono hbw.size)) (Nat.le_refl _) (Nat.le_succ _) _ _ _ _ _,nm,ip,il,ic,gp,gl,gc,c,k,i,rfl,?_⟩
 all_goals(have hof:Off [w.heap.size,w.heap.size+1] w1 (fin5 w3 w.heap.size (w.heap.size+1) (.string nm) (.slice ip il ic) (.slice gp gl gc) (.int .i64 k) (.int .i64 i)):=(((((Off.of_below hb13).set (Or.inl (by simp)) _).set (Or.inl (by simp)) _).set (Or.inl (by simp)) _).set (Or.inl (by simp)) _).set (Or.inl (by simp)) _;have h8:=HD.out;rw[HSZ.out]at h8;exact(h8.off hof (by simp)).low (by omega))
theorem docD_inv{s:ByteArray}{O:LObj}(h:docD s=.ok O):ObjFine 100000 O:=by
 unfold docD at h;split at h
 ·cases h
 ·rename_i h1
  split at h
  ·cases h
  ·split at h
   ·cases h
   ·have hb:(bodyOf s).size<=100000:=by unfold bodyOf;rw[ByteArray.size_extract];omega
    match hr:rdObj (bodyOf s),h with
    |.ok (O',q),h=>
     simp only at h;have hf:=(rdObj_ok hr).1;split at h
     ·cases h
     ·cases h;exact⟨hf.nm,Nat.le_trans hf.im hb,hf.imn,Nat.le_trans hf.gl hb,hf.gf⟩
def noO:LObj:=⟨⟨#[]⟩,[],[]⟩
theorem noO_fine:ObjFine 100000 noO:=⟨by decide,by decide,(λx hx=>by cases hx),by decide,(λx hx=>by cases hx)⟩
theorem noO_own(w:World)(lo:Nat):ObjO w lo objZ noO:=⟨none,0,0,none,0,0,lo,[],rfl,RowS.nil _ _,(λb hb=>by simp[rowB,vB_nil]at hb),Nat.le_refl _,RowS.nil _ _,rfl⟩
theorem dec_both{d:Except (Int×Int×Int) LObj}{s:ByteArray}(hd:docD s=d){w1 w2:World}{lo:Nat}{v v2:Value}{c k i c2 k2 i2:Int}(h1:DecT w1 lo v c k i d)(h2:DecIs d w2 v2 c2 k2 i2):∃O,ObjFine 100000 O∧ObjO w1 lo v O∧ObjAt w2 v2 O∧c=c2∧k=k2∧i=i2:=by
 match d,hd,h1,h2 with
 |.error (c',k',i'),_,⟨h1,h2,h3,h4⟩,⟨h5,h6,h7,h8⟩=>
  subst h1 h2 h3 h4;refine⟨noO,noO_fine,noO_own _ _,?_,h5.symm,h6.symm,h7.symm⟩;rw[h8];exact ObjO.at (noO_own w2 0) noO_fine (Nat.le_refl _)
 |.ok O,hd,⟨h1,h2,h3,h4⟩,⟨h5,h6,h7,h8⟩=>
  subst h1 h2 h3;exact⟨O,docD_inv hd,h4,h8,h5.symm,h6.symm,h7.symm⟩
structure BK (w0:World) (top:Nat) (w:World) (b r:Nat):Prop where
 it:∃(fp:List Nat) (vi vg vc va:Value) (hi hg hc ha:List Nat),BookSt w fp b vi vg vc va hi hg hc ha∧(∀q∈fp,w0.heap.size<=q∧q<top)∧hi.length<=r∧hg.length<=r∧hc.length<=r*100000∧ha.length<=r*6553500000
 le:top<=w.heap.size
theorem BK.keep{w0 w w':World}{top b r:Nat}(h:BK w0 top w b r)(hb:Below w.heap.size w w'):BK w0 top w' b r:=by
 obtain⟨fp,vi,vg,vc,va,hi,hg,hc,ha,h1,h2,h3⟩:=h.it;have hl:=h.le;exact⟨⟨fp,vi,vg,vc,va,hi,hg,hc,ha,h1.fr (λq hq=>hb.block q (by have:=h2 q hq;omega)),h2,h3⟩,Nat.le_trans hl hb.size⟩
theorem pl2(w:World)(o:Obj)(a b:Value):Bx2 ((w.alloc o).alloc (Obj.cells #[a,b] 36)) (w.heap.size+1) a b:=by
 have h:=Bx2.new (w.alloc o) a b 36;rw[show(w.alloc o).heap.size=w.heap.size+1 by simp]at h;exact h
theorem BK.w0le{w0 w:World}{top b r:Nat}(h:BK w0 top w b r):w0.heap.size<=w.heap.size:=by
 obtain⟨fp,vi,vg,vc,va,hi,hg,hc,ha,h1,h2,h3⟩:=h.it;have:=h2 b h1.mem;have:=h.le;omega
def BookObjOk:Prop:=∀(w0 w:World) (b r lo:Nat) (v:Value) (O:LObj),BK w0 lo w b r->r<=2->ObjFine 100000 O->ObjO w lo v O->w0.heap.size<=lo->
 Calls Tryz.prog 9 #[.pointer (some ⟨b,0,none⟩),v] w λe w'=>e=.returned (.tuple #[])∧BK w0 w'.heap.size w' b (r+1)∧Below w0.heap.size w w'
def LooksOk:Prop:=∀(w0 w:World) (b r top:Nat),BK w0 top w b r->r<=2->
 Calls Tryz.prog 10 #[.pointer (some ⟨b,0,none⟩)] w λe w'=>e=.returned (.bool true)∧Below w.heap.size w w'
theorem decodes_try(HBO:Hid BookObjOk)(HLK:Hid LooksOk)(s:ByteArray)(sm:Bool)(adr:Nat->Addr)(w:World)(hs:s.size<140737488355328)(hT:TabAt w)(hS:SentAt w adr):
 Calls Tryz.prog 3 #[.string s,.bool sm] w λe w'=>e=.returned (.bool true)∧Below w.heap.size w w':=by
 have HT:=hid hT;have HSE:=hid hS;have HSU:=hid (summed_any s sm w hs);clear hT hS;go_enter Tryz.func3,Tryz.ntmps3;go_wp2_with (first
  |(go_at_call 4;refine HSU.out.mono ?_;rintro e w1 ⟨⟨t,rfl⟩,hb1⟩;have HB1:=hid hb1;clear hb1 HSU))
 have HBX:=hid (Bx4.new w1 (.slice none 0 0) (.slice none 0 0) (.slice none 0 0) (.slice none 0 0) 29);have HB2:Hid (Below w1.heap.size w1 (w1.alloc (Obj.cells #[.slice none 0 0,.slice none 0 0,.slice none 0 0,.slice none 0 0] 29))):=(Below.refl _ _).alloc (Nat.le_refl _) _;have HK0:Hid (BK w1 (w1.alloc (Obj.cells #[.slice none 0 0,.slice none 0 0,.slice none 0 0,.slice none 0 0] 29)).heap.size (w1.alloc (Obj.cells #[.slice none 0 0,.slice none 0 0,.slice none 0 0,.slice none 0 0] 29)) w1.heap.size 0):=⟨⟨[w1.heap.size],_,_,_,_,[],[],[],[],BookSt.new HBX.out,by simp,by simp,by simp,by simp,by simp⟩,Nat.le_refl _⟩;have HBW:Hid (Below w.heap.size w (w1.alloc (Obj.cells #[.slice none 0 0,.slice none 0 0,.slice none 0 0,.slice none 0 0] 29))):=HB1.out.trans (HB2.out.mono HB1.out.size);have hw1:w.heap.size<=w1.heap.size:=HB1.out.size;clear HBX HB2 HB1;generalize w1.alloc (Obj.cells #[.slice none 0 0,.slice none 0 0,.slice none 0 0,.slice none 0 0] 29)=W2 at*;go_loopw [7] (λkv wr=>∃k:Nat,k<=2∧kv=.int .i64 (k:Int)∧Hid (BK w1 wr.heap.size wr w1.heap.size k)∧Hid (Below w.heap.size w wr)) (λkv _=>2-(intOf kv).toNat)
 case atStart=>exact⟨0,Nat.zero_le _,rfl,HK0.out,HBW.out⟩
 case round=>
  clear HK0 HBW;obtain⟨k,hk,rfl,HBK,HBR⟩:=hrel;rename World=>wr
  by_cases hlt:k<2
  ·have HTD:=hid (tarnDecode_any t adr wr (HT.out.keep HBR.out) (HSE.out.keep HBR.out));have HRD:=hid (λw=>refDecode_any t w);obtain⟨d,hd⟩:∃d,docD t=d:=⟨_,rfl⟩;have HDD:=hid hd;go_wp2_with (first
    |(go_at_call 5;refine HTD.out.mono ?_;rintro e w3 ⟨hb3,nm,ip,il,ic,gp,gl,gc,c,kk,ii,rfl,hD3⟩;have HB3:=hid hb3;have HD3:=hid hD3;clear hb3 hD3 HTD)
    |(go_at_call 6;refine(HRD.out _).mono ?_;rintro e w4 ⟨v2,c2,k2,i2,rfl,hb4,hI4⟩;have hb34:=(((Below.refl w3.heap.size w3).alloc (Nat.le_refl _) (Obj.cells #[.string nm,.slice ip il ic,.slice gp gl gc] 33)).alloc (by simp) (Obj.cells #[.int .i64 kk,.int .i64 ii] 36)).trans (hb4.mono (by simp;omega));have HB34:=hid hb34;obtain⟨O,hfi,hO3,hA4,rfl,rfl,rfl⟩:=dec_both rfl HD3.out hI4;have HFI:=hid hfi;have HO3:=hid hO3;have HA4:=hid hA4;obtain⟨iv2,gv2,rfl,-,hi2,hg2⟩:=id hA4;obtain⟨ip2,ic2,rfl,-,-⟩:=hi2.open;obtain⟨gp2,gc2,rfl,-,-⟩:=hg2.open;have HP4:=hid (((Below.refl w4.heap.size w4).alloc (Nat.le_refl _) (Obj.cells #[.string O.name,.slice ip2 O.imps.length ic2,.slice gp2 O.globs.length gc2] 33)).alloc (by simp) (Obj.cells #[.int .i64 kk,.int .i64 ii] 36));have HO8:=hid (((Bx3.new w3 (.string nm) (.slice ip il ic) (.slice gp gl gc) 33).keep ((Below.refl _ _).alloc (Nat.le_refl _) (Obj.cells #[.int .i64 kk,.int .i64 ii] 36))).keep hb4);have HP8:=hid ((pl2 w3 (Obj.cells #[.string nm,.slice ip il ic,.slice gp gl gc] 33) (.int .i64 kk) (.int .i64 ii)).of_block (hb4.block _ (pl2 w3 (Obj.cells #[.string nm,.slice ip il ic,.slice gp gl gc] 33) (.int .i64 kk) (.int .i64 ii)).lt));obtain⟨o0,o1,o2,-,-,-⟩:=id HO8.out;obtain⟨q0,q1,-,-⟩:=id HP8.out;have hw34:w3.heap.size+1<w4.heap.size:=HP8.out.lt;have hw33:w3.heap.size<w4.heap.size:=HO8.out.lt;have hw13:w1.heap.size<=wr.heap.size:=HBK.out.w0le;clear hb34 hb4 hI4 hfi hO3 hA4 hi2 hg2)
    |(go_at_call 7;refine(Same_any O _ _ _ (((HO3.out.at HFI.out (Nat.le_refl _)).keep HB34.out).keep HP4.out) (HA4.out.keep HP4.out)).mono ?_;rintro e w5 ⟨rfl,hb5⟩;have HB45:=hid (HP4.out.trans (hb5.mono HP4.out.size));have HO5:=hid (HO8.out.keep HB45.out);have HP5:=hid (HP8.out.of_block (HB45.out.block _ HP8.out.lt));have HQ5:=hid ((pl2 w4 (Obj.cells #[.string O.name,.slice ip2 O.imps.length ic2,.slice gp2 O.globs.length gc2] 33) (.int .i64 kk) (.int .i64 ii)).of_block (hb5.block _ (pl2 w4 (Obj.cells #[.string O.name,.slice ip2 O.imps.length ic2,.slice gp2 O.globs.length gc2] 33) (.int .i64 kk) (.int .i64 ii)).lt));obtain⟨oa0,oa1,oa2,-,-,-⟩:=id HO5.out;obtain⟨qa0,qa1,-,-⟩:=id HP5.out;obtain⟨qb0,qb1,-,-⟩:=id HQ5.out;have HB35:=hid (HB34.out.trans (HB45.out.mono HB34.out.size));have HBR5:=hid (HB3.out.trans (HB35.out.mono HB3.out.size));have HOB:=hid (HBO.out w1 w5 w1.heap.size k wr.heap.size _ O (HBK.out.keep HBR5.out) hk HFI.out (HO3.out.off (bs:=[]) (Off.of_below HB35.out) (by simp)) hw13);clear hb5)
    |(go_at_call 8;refine(num_any _ _).mono ?_;rintro e w6 ⟨rfl,hw6⟩;replace hw6:=hw6.symm;subst hw6)
    |(go_at_call 9;refine HOB.out.mono ?_;rintro e w7 ⟨rfl,hk7,hb7⟩;have HK7:=hid hk7;have HB7:=hid hb7;clear hk7 hb7 HOB))
   have HW5:=hid (HBR.out.trans (HBR5.out.mono HBR.out.size));exact⟨⟨k+1,by omega,by go_num,HK7.out,HW5.out.trans (HB7.out.mono hw1)⟩,by simp[intOf];omega⟩
  ·obtain rfl:k=2:=by omega
   have HL:=hid (HLK.out w1 wr w1.heap.size 2 wr.heap.size HBK.out (by omega));go_wp2_with (first
    |(go_at_call 10;refine HL.out.mono ?_;rintro e w8 ⟨rfl,hb8⟩))
   go_ret;exact⟨rfl,HBR.out.trans (hb8.mono HBR.out.size)⟩
theorem BRow.read{w:World}{fp:List Nat}{tt e:TypeId}{mark:Nat->List Value}{vp:Option Addr}{vcap:Nat}{hs:List Nat}(h:BRow w fp tt e mark (.slice vp hs.length vcap) hs)(i:Nat)(hi:i<hs.length)(k:Nat)(hk:k<4):
 ∃(g b:Nat) (p:Option Addr) (n c:Nat),vp=some ⟨g,0,none⟩∧w.cell? ⟨g,i,none⟩=some (.slice (some ⟨b,0,none⟩) 4 4)∧w.cell? ⟨b,k,none⟩=some (.slice p n c)∧n<=maxLen∧∀j,j<n->∃g',p=some ⟨g',0,none⟩∧∀o,o<(mark i).length->w.cell? ⟨g',j*(mark i).length+o,none⟩=(mark i)[o]?:=by
 rcases row_at h.own with⟨h1,h2⟩|⟨g,cap,h1,h2,h3⟩
 ·omega
 ·simp only[Value.slice.injEq,true_and]at h1;obtain⟨rfl,rfl⟩:=h1;have hc:=h3 i (by omega);rw[List.getElem?_map,List.getElem?_eq_getElem hi]at hc;obtain⟨-,l,hl,hcl,hrl⟩:=h.it i hi;obtain⟨hr1,-⟩:=hrl (l[k]) (List.getElem_mem (by omega));have hck:=hcl k (by omega);refine⟨g,hs[i],l[k].1,l[k].2.1,l[k].2.2,rfl,hc,hck,?_,λj hj=>?_⟩
  ·rcases hr1.2 with⟨h5,h6⟩|⟨g',cap',cur,h5,-,-,h6,h7,-⟩
   ·omega
   ·omega
  ·rcases row_at hr1 with⟨h5,h6⟩|⟨g',cap',h5,h6,h7⟩
   ·omega
   ·simp only[Value.slice.injEq]at h5;refine⟨g',h5.1,λo ho=>?_⟩;have hlt:j*(mark i).length+o<l[k].2.1*(mark i).length:=by
     have:(j+1)*(mark i).length<=l[k].2.1*(mark i).length:=Nat.mul_le_mul_right _ hj;rw[Nat.add_mul,Nat.one_mul]at this;omega
    rw[h7 _ hlt,mks_at _ _ _ hlt,Nat.add_comm,Nat.add_mul_mod_self_right,Nat.mod_eq_of_lt ho]
theorem looks_any:LooksOk:=by
 intro w0 w b r top hBK hr;obtain⟨fp,vi,vg,vc,va,hi,hg,hc,ha,hB,-,l1,l2,l3,l4⟩:=hBK.it;obtain⟨pi,ci,rfl⟩:=row_slice hB.i.own;obtain⟨pg,cg,rfl⟩:=row_slice hB.g.own;obtain⟨pc,cc,rfl⟩:=row_slice hB.c.own;obtain⟨pa,ca,rfl⟩:=row_slice hB.a.own;have hi':hi.length<=100000000000:=by omega
 have hg':hg.length<=100000000000:=by omega
 have hc':hc.length<=100000000000:=by omega
 have ha':ha.length<=100000000000:=by omega
 obtain⟨b0,b1,b2,b3,-,-,-,-⟩:=id hB.box;have HB:=hid hB;have HBX:Hid (∀w',Below w.heap.size w w'->Bx4 w' b (.slice pi hi.length ci) (.slice pg hg.length cg) (.slice pc hc.length cc) (.slice pa ha.length ca)):=λw' hb=>hB.box.keep hb;clear hB hBK l1 l2 l3 l4;go_enter Tryz.func10,Tryz.ntmps10;go_wp2;go_loopw [3] (λkv wr=>∃k:Nat,k<=4∧kv=.int .i64 (k:Int)∧Below w.heap.size w wr) (λkv _=>4-(intOf kv).toNat)
 case atStart=>exact⟨0,Nat.zero_le _,rfl,Below.refl _ _⟩
 case round=>
  obtain⟨k,hk,rfl,hbk⟩:=hrel;rename World=>w1
  by_cases hlt:k<4
  ·have hk0:(0:Int)<=(k:Int):=by omega
   have hk4:(k:Int)<4:=by omega
   obtain⟨x0,x1,x2,x3,-,-,-,-⟩:=HBX.out _ hbk;go_wp2;go_loopw [4] (λiv wr=>∃i:Nat,i<=hi.length∧iv=.int .i64 (i:Int)∧Below w.heap.size w wr) (λiv _=>hi.length-(intOf iv).toNat)
   case atStart=>exact⟨0,Nat.zero_le _,rfl,by assumption⟩
   case round=>
    clear hbk x0 x1 x2 x3;obtain⟨i,hi1,rfl,hbk⟩:=hrel;rename World=>w2
    obtain⟨x0,x1,x2,x3,-,-,-,-⟩:=HBX.out _ hbk;by_cases hil:i<hi.length
    ·obtain⟨g,bb,p,n,c,rfl,y0,y1,hn,hrow⟩:=BRow.read HB.out.i i hil k hlt;unfold maxLen at hn;have hi0:(0:Int)<=(i:Int):=by omega
     have hil':(i:Int)<(hi.length:Int):=by omega
     have HROW:=hid hrow;have HY0:=hid y0;have HY1:=hid y1;clear hrow y0 y1;have y0:=cell_keep hbk HY0.out;have y1:=cell_keep hbk HY1.out;go_wp2;go_loopw [5] (λjv wr=>∃j:Nat,j<=n∧jv=.int .i64 (j:Int)∧Below w.heap.size w wr) (λjv _=>n-(intOf jv).toNat)
     case atStart=>exact⟨0,Nat.zero_le _,rfl,by assumption⟩
     case round=>
      clear hbk x0 x1 x2 x3 y0 y1;obtain⟨j,hj1,rfl,hbk⟩:=hrel;rename World=>w3
      obtain⟨x0,x1,x2,x3,-,-,-,-⟩:=HBX.out _ hbk;have y0:=cell_keep hbk HY0.out;have y1:=cell_keep hbk HY1.out;by_cases hjn:j<n
      ·obtain⟨g',rfl,hcell⟩:=HROW.out j hjn;have y2:=cell_keep hbk (show w.cell? ⟨g',j*2+1,none⟩=some (.int .i64 (mkI i)) from hcell 1 (show 1<2 by omega));have HM:=hid (λw=>mark_any i w (by omega));have hj0:(0:Int)<=(j:Int):=by omega
       have hjn':(j:Int)<(n:Int):=by omega
       generalize mkI i=M at*;clear hcell HROW HY0 HY1;go_wp2;go_quiet ((go_at_call 18;refine Calls.quiet_of_same (HM.out _)));go_wp2;exact⟨⟨j+1,by omega,by go_num,below_drewN hbk _⟩,by simp[intOf];omega⟩
      ·go_wp2;exact⟨⟨i+1,by omega,by go_num,hbk⟩,by simp[intOf];omega⟩
    ·have hii:¬(i:Int)<(hi.length:Int):=by omega
     obtain⟨x0,x1,x2,x3,-,-,-,-⟩:=HBX.out _ hbk;go_wp2;go_loopw [6] (λiv wr=>∃i:Nat,i<=hg.length∧iv=.int .i64 (i:Int)∧Below w.heap.size w wr) (λiv _=>hg.length-(intOf iv).toNat)
     case atStart=>exact⟨0,Nat.zero_le _,rfl,by assumption⟩
     case round=>
      clear hbk x0 x1 x2 x3;obtain⟨i,hi1,rfl,hbk⟩:=hrel;rename World=>w2
      obtain⟨x0,x1,x2,x3,-,-,-,-⟩:=HBX.out _ hbk;by_cases hil:i<hg.length
      ·obtain⟨g,bb,p,n,c,rfl,y0,y1,hn,hrow⟩:=BRow.read HB.out.g i hil k hlt;unfold maxLen at hn;have hi0:(0:Int)<=(i:Int):=by omega
       have hil':(i:Int)<(hg.length:Int):=by omega
       have HROW:=hid hrow;have HY0:=hid y0;have HY1:=hid y1;clear hrow y0 y1;have y0:=cell_keep hbk HY0.out;have y1:=cell_keep hbk HY1.out;go_wp2;go_loopw [7] (λjv wr=>∃j:Nat,j<=n∧jv=.int .i64 (j:Int)∧Below w.heap.size w wr) (λjv _=>n-(intOf jv).toNat)
       case atStart=>exact⟨0,Nat.zero_le _,rfl,by assumption⟩
       case round=>
        clear hbk x0 x1 x2 x3 y0 y1;obtain⟨j,hj1,rfl,hbk⟩:=hrel;rename World=>w3
        obtain⟨x0,x1,x2,x3,-,-,-,-⟩:=HBX.out _ hbk;have y0:=cell_keep hbk HY0.out;have y1:=cell_keep hbk HY1.out;by_cases hjn:j<n
        ·obtain⟨g',rfl,hcell⟩:=HROW.out j hjn;have y2:=cell_keep hbk (show w.cell? ⟨g',j*4+1,none⟩=some (.int .i64 (mkI i)) from hcell 1 (show 1<4 by omega));have HM:=hid (λw=>mark_any i w (by omega));have hj0:(0:Int)<=(j:Int):=by omega
         have hjn':(j:Int)<(n:Int):=by omega
         generalize mkI i=M at*;clear hcell HROW HY0 HY1;go_wp2;go_quiet ((go_at_call 18;refine Calls.quiet_of_same (HM.out _)));go_wp2;exact⟨⟨j+1,by omega,by go_num,below_drewN hbk _⟩,by simp[intOf];omega⟩
        ·go_wp2;exact⟨⟨i+1,by omega,by go_num,hbk⟩,by simp[intOf];omega⟩
      ·have hii:¬(i:Int)<(hg.length:Int):=by omega
       obtain⟨x0,x1,x2,x3,-,-,-,-⟩:=HBX.out _ hbk;go_wp2;go_loopw [8] (λiv wr=>∃i:Nat,i<=hc.length∧iv=.int .i64 (i:Int)∧Below w.heap.size w wr) (λiv _=>hc.length-(intOf iv).toNat)
       case atStart=>exact⟨0,Nat.zero_le _,rfl,by assumption⟩
       case round=>
        clear hbk x0 x1 x2 x3;obtain⟨i,hi1,rfl,hbk⟩:=hrel;rename World=>w2
        obtain⟨x0,x1,x2,x3,-,-,-,-⟩:=HBX.out _ hbk;by_cases hil:i<hc.length
        ·obtain⟨g,bb,p,n,c,rfl,y0,y1,hn,hrow⟩:=BRow.read HB.out.c i hil k hlt;unfold maxLen at hn;have hi0:(0:Int)<=(i:Int):=by omega
         have hil':(i:Int)<(hc.length:Int):=by omega
         have HROW:=hid hrow;have HY0:=hid y0;have HY1:=hid y1;clear hrow y0 y1;have y0:=cell_keep hbk HY0.out;have y1:=cell_keep hbk HY1.out;go_wp2;go_loopw [9] (λjv wr=>∃j:Nat,j<=n∧jv=.int .i64 (j:Int)∧Below w.heap.size w wr) (λjv _=>n-(intOf jv).toNat)
         case atStart=>exact⟨0,Nat.zero_le _,rfl,by assumption⟩
         case round=>
          clear hbk x0 x1 x2 x3 y0 y1;obtain⟨j,hj1,rfl,hbk⟩:=hrel;rename World=>w3
          obtain⟨x0,x1,x2,x3,-,-,-,-⟩:=HBX.out _ hbk;have y0:=cell_keep hbk HY0.out;have y1:=cell_keep hbk HY1.out;by_cases hjn:j<n
          ·obtain⟨g',rfl,hcell⟩:=HROW.out j hjn;have y2:=cell_keep hbk (show w.cell? ⟨g',j*3+1,none⟩=some (.int .i64 (mkI i)) from hcell 1 (show 1<3 by omega));have HM:=hid (λw=>mark_any i w (by omega));have hj0:(0:Int)<=(j:Int):=by omega
           have hjn':(j:Int)<(n:Int):=by omega
           generalize mkI i=M at*;clear hcell HROW HY0 HY1;go_wp2;go_quiet ((go_at_call 18;refine Calls.quiet_of_same (HM.out _)));go_wp2;exact⟨⟨j+1,by omega,by go_num,below_drewN hbk _⟩,by simp[intOf];omega⟩
          ·go_wp2;exact⟨⟨i+1,by omega,by go_num,hbk⟩,by simp[intOf];omega⟩
        ·have hii:¬(i:Int)<(hc.length:Int):=by omega
         obtain⟨x0,x1,x2,x3,-,-,-,-⟩:=HBX.out _ hbk;go_wp2;go_loopw [10] (λiv wr=>∃i:Nat,i<=ha.length∧iv=.int .i64 (i:Int)∧Below w.heap.size w wr) (λiv _=>ha.length-(intOf iv).toNat)
         case atStart=>exact⟨0,Nat.zero_le _,rfl,by assumption⟩
         case round=>
          clear hbk x0 x1 x2 x3;obtain⟨i,hi1,rfl,hbk⟩:=hrel;rename World=>w2
          obtain⟨x0,x1,x2,x3,-,-,-,-⟩:=HBX.out _ hbk;by_cases hil:i<ha.length
          ·obtain⟨g,bb,p,n,c,rfl,y0,y1,hn,hrow⟩:=BRow.read HB.out.a i hil k hlt;unfold maxLen at hn;have hi0:(0:Int)<=(i:Int):=by omega
           have hil':(i:Int)<(ha.length:Int):=by omega
           have HROW:=hid hrow;have HY0:=hid y0;have HY1:=hid y1;clear hrow y0 y1;have y0:=cell_keep hbk HY0.out;have y1:=cell_keep hbk HY1.out;go_wp2;go_loopw [11] (λjv wr=>∃j:Nat,j<=n∧jv=.int .i64 (j:Int)∧Below w.heap.size w wr) (λjv _=>n-(intOf jv).toNat)
           case atStart=>exact⟨0,Nat.zero_le _,rfl,by assumption⟩
           case round=>
            clear hbk x0 x1 x2 x3 y0 y1;obtain⟨j,hj1,rfl,hbk⟩:=hrel;rename World=>w3
            obtain⟨x0,x1,x2,x3,-,-,-,-⟩:=HBX.out _ hbk;have y0:=cell_keep hbk HY0.out;have y1:=cell_keep hbk HY1.out;by_cases hjn:j<n
            ·obtain⟨g',rfl,hcell⟩:=HROW.out j hjn;have y2:=cell_keep hbk (show w.cell? ⟨g',j*2+1,none⟩=some (.int .i64 (mkI i)) from hcell 1 (show 1<2 by omega));have HM:=hid (λw=>mark_any i w (by omega));have hj0:(0:Int)<=(j:Int):=by omega
             have hjn':(j:Int)<(n:Int):=by omega
             generalize mkI i=M at*;clear hcell HROW HY0 HY1;go_wp2;go_quiet ((go_at_call 18;refine Calls.quiet_of_same (HM.out _)));go_wp2;exact⟨⟨j+1,by omega,by go_num,below_drewN hbk _⟩,by simp[intOf];omega⟩
            ·go_wp2;exact⟨⟨i+1,by omega,by go_num,hbk⟩,by simp[intOf];omega⟩
          ·have hii:¬(i:Int)<(ha.length:Int):=by omega
           go_wp2;exact⟨⟨k+1,by omega,by go_num,by assumption⟩,by simp[intOf];omega⟩
  ·go_wp2;go_ret;exact⟨rfl,hbk⟩
end Go.Proofs.YtefpamchdheldaaGreatDoor
