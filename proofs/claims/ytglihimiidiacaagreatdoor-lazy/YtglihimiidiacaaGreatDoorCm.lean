import Derived.Test.YtglihimiidiacaaGreatDoorCl
import Derived.Test.YtglihimiidiacaaGreatDoorCf
import Derived.Test.YtglihimiidiacaaGreatDoorCc
namespace Go.Proofs.YtglihimiidiacaaGreatDoor
open Go.RowKit Go.Sort
theorem sBad_le{most:Int}{e k i:Nat}:∀(l:List LGlob) (j:Nat),sBad most l j=some (e,k,i)→e≤2
 |[],_,h=>by simp[sBad]at h
 |g::r,j,h=>by
  rw[sBad]at h;split at h
  ·rename_i e' i' hb
   have:=gBad_le hb;simp at h;omega
  ·exact sBad_le r (j+1) h
theorem kCode_next{e:Nat}(h:e≤2):kCode (e+1)=12+(e:Int):=by
 rcases(show e=0∨e=1∨e=2 by omega) with rfl|rfl|rfl<;>rfl
structure Told (w:World) (v:Value) (c x y:Int):Prop where
 kind:∀w',Below w.heap.size w w'→Calls Tryz.prog 23 #[v] w' fun e w''=>e=.returned (.int .i64 c)∧Below w'.heap.size w' w''
 place:∀w',Below w.heap.size w w'→Calls Tryz.prog 24 #[v] w' fun e w''=>e=.returned (.agg #[.int .i64 x,.int .i64 y])∧Below w'.heap.size w' w''
theorem told_nil(w:World):Told w .nilIface 0 0 0:=⟨fun w' _=>(kind_nil w').mono fun _ _ ⟨h1,h2⟩=>⟨h1,by rw[h2];exact Below.refl _ _⟩,fun w' _=>place_nil w'⟩
theorem told_fault{w:World}{adr:Nat→Addr}(hS:SentAt w adr)(i:Nat)(hi:0≤i∧i<19)(k n:Int):Told w (errF (adr i) k n) (kCode i) k n:=⟨fun _ hb=>kind_fault (hS.keep hb) i hi k n,fun _ hb=>place_fault (hS.keep hb) (adr i) k n⟩
end Go.Proofs.YtglihimiidiacaaGreatDoor
namespace Go.Proofs.YtglihimiidiacaaGreatDoor
open Go.RowKit Go.Sort
def DecA(adr:Nat→Addr)(w:World)(lo:Nat)(v x:Value)(d:Except (Int×Int×Int) LObj):Prop:=
 match d with
 |.error (c,k,i)=>v=objZ∧∃j,(0≤j∧j<19)∧x=errF (adr j) k i∧kCode j=c
 |.ok O=>x=.nilIface∧ObjO w lo v O
def DecO(s:ByteArray)(adr:Nat→Addr)(w:World)(e:Ending)(w':World):Prop:=Below w.heap.size w w'∧∃v x,e=.returned (.tuple #[v,x])∧DecA adr w' w.heap.size v x (docD s)
theorem eIx_ok{c:Nat}(h:CE c):(0≤eIx c∧eIx c<19)∧kCode (eIx c)=(c:Int):=by
 unfold CE at h;rcases h with rfl|rfl|rfl|rfl|rfl|rfl;all_goals exact⟨by decide,rfl⟩
theorem SentAt.long{w:World}{adr:Nat→Addr}(h:SentAt w adr):w.cell? ⟨1,0,none⟩=some (.iface 443 (.pointer (some (adr 4)))):=h.c 4 (by omega)
theorem SentAt.short{w:World}{adr:Nat→Addr}(h:SentAt w adr):w.cell? ⟨6,0,none⟩=some (.iface 443 (.pointer (some (adr 6)))):=h.c 6 (by omega)
theorem SentAt.sum{w:World}{adr:Nat→Addr}(h:SentAt w adr):w.cell? ⟨7,0,none⟩=some (.iface 443 (.pointer (some (adr 7)))):=h.c 7 (by omega)
theorem decErr{s:ByteArray}{adr:Nat→Addr}{w w':World}{c k i:Int}{j:Nat}(hd:docD s=.error (c,k,i))(hj:0≤j∧j<19)(hc:kCode j=c)(hb:Below w.heap.size w w'):DecO s adr w (.returned (.tuple #[.agg #[.string ⟨#[]⟩,.slice none 0 0,.slice none 0 0],.iface 123 (.agg #[.iface 443 (.pointer (some (adr j))),.int .i64 k,.int .i64 i])])) w':=by
 refine⟨hb,_,_,rfl,?_⟩;rw[hd];exact⟨rfl,j,hj,rfl,hc⟩
set_option maxRecDepth 100000 in
set_option maxHeartbeats 8000000 in
theorem objDecode_any(s:ByteArray)(adr:Nat→Addr)(w:World)(hT:TabAt w)(hS:SentAt w adr):
 Calls Tryz.prog 27 #[.string s] w fun e w'=>DecO s adr w e w':=by
 have HT:=hid hT;have HSE:=hid hS;have HBA:Hid (∀o:Obj,Below w.heap.size w (w.alloc o)):=fun o=>(Below.refl _ _).alloc (Nat.le_refl _) o;clear hT hS;by_cases h1:100000<s.size
 ·have HD:=hid (docD_long h1);have h1':(100000:Int)<(s.size:Int):=by omega
  have x4:=HSE.out.long;have l4:1<w.heap.size:=block_lt_of_cell x4;go_enter Tryz.func27,Tryz.ntmps27;go_wp2_with (first
   |(go_at_call 38;refine(fAt_any _ _ _ _).mono ?_;rintro e w2 ⟨rfl,rfl⟩))
  refine bodyPost_ret (v:=.tuple #[.agg #[.string ⟨#[]⟩,.slice none 0 0,.slice none 0 0],.iface 123 (.agg #[.iface 443 (.pointer (some (adr 4))),.int .i64 0,.int .i64 0])]) (by simp[results,Tryz.results27,go_sem]) rfl ?_;exact decErr HD.out (by omega) rfl (HBA.out _)
 ·by_cases h2:s.size<8
  ·have HD:=hid (docD_short h1 h2);have h1':¬(100000:Int)<(s.size:Int):=by omega
   have h2':(s.size:Int)<8:=by omega
   have x6:=HSE.out.short;have l6:6<w.heap.size:=block_lt_of_cell x6;go_enter Tryz.func27,Tryz.ntmps27;go_wp2_with (first
    |(go_at_call 38;refine(fAt_any _ _ _ _).mono ?_;rintro e w2 ⟨rfl,rfl⟩))
   refine bodyPost_ret (v:=.tuple #[.agg #[.string ⟨#[]⟩,.slice none 0 0,.slice none 0 0],.iface 123 (.agg #[.iface 443 (.pointer (some (adr 6))),.int .i64 0,.int .i64 (s.size:Int)])]) (by simp[results,Tryz.results27,go_sem]) rfl ?_;exact decErr HD.out (by omega) rfl (HBA.out _)
  ·have h1':¬(100000:Int)<(s.size:Int):=by omega
   have h2':¬(s.size:Int)<8:=by omega
   have h3':(0:Int)≤(s.size:Int)-4:=by omega
   have h4':(s.size:Int)-4≤(s.size:Int):=by omega
   have HSUM:=hid (sum_iff (s:=s) (by omega));obtain⟨B,hB⟩:∃B,B=bodyOf s:=⟨_,rfl⟩;have hBs:B.size=s.size-4:=by rw[hB];unfold bodyOf;rw[ByteArray.size_extract];omega
   have HST:=hid (fun w=>sumTxt_any B w (by omega));have HE:Hid (s.extract 0 (s.size-4)=B):=hB.symm;have hN4:((s.size:Int)-4).toNat=s.size-4:=by omega
   have HE2:Hid (s.extract 0 ((s.size:Int)-4).toNat=B):=by show _=_;rw[hN4];exact hB.symm
   have HN4:=hid hN4;clear hN4;rw[←hB]at HSUM;have HBO:=hid hB;clear hB;go_enter Tryz.func27,Tryz.ntmps27;go_upto_region 6 with fail
   have HR0:=hid (Bx3.new w (.string ⟨#[]⟩) (.slice none 0 0) (.slice none 0 0) 41);have HB0:=hid (HBA.out (Obj.cells #[.string ⟨#[]⟩,.slice none 0 0,.slice none 0 0] 41));generalize w.alloc (Obj.cells #[.string ⟨#[]⟩,.slice none 0 0,.slice none 0 0] 41)=W1 at*;go_cut [32] (fun c wx=>c=.bool (!((s.extract (s.size-4) s.size).toList==(sumS B).toList))∧Hid (Below W1.heap.size W1 wx))
   case first=>
    go_region_with ((go_at_call 52;(first|rw[HE.out]|rw[HE2.out]);refine(HST.out _).mono ?_;rintro e w1 ⟨rfl,hb1⟩;have HB1:=hid hb1;clear hb1))
    all_goals go_wp2_with fail
    all_goals go_meet
    all_goals exact⟨by first|rfl|rw[HN4.out],((Below.refl _ _).drew).trans HB1.out⟩
   case rest=>
    obtain⟨rfl,HB1⟩:=hcut;rename World=>w1
    have HR1:=hid (HR0.out.keep HB1.out);have HBW:Hid (Below w.heap.size w w1):=HB0.out.trans (HB1.out.mono HB0.out.size);have hw1:w.heap.size<w1.heap.size:=HR1.out.lt;obtain⟨r0,r1,r2,k0,k1,k2⟩:=id HR1.out;have HEI:Hid (s.size-4<s.size):=by show _<_;omega
    clear HR0 HB0 HB1 HBA HST;by_cases hsum:sumIs s
    ·have hcmp:((s.extract (s.size-4) s.size).toList==(sumS B).toList)=true:=by rw[HSUM.out.2 hsum];exact beq_self_eq_true _
     rw[hcmp];have HSI:=hid hsum;clear hsum hcmp HSUM;have HSB:Hid (B.size≤100000):=by show _≤_;omega
     have HBL:Hid (Below w1.heap.size w1 (w1.alloc (Obj.cells #[.string B,.int .i64 0] 148))):=(Below.refl _ _).alloc (Nat.le_refl _) _;have HOB:=hid (rdObj_any (W:=w) (w:=w1.alloc (Obj.cells #[.string B,.int .i64 0] 148)) (E:=w1.heap.size) (adr:=adr) (s:=B) (by omega) (by omega) ⟨HSE.out,HT.out,HBW.out.trans (HBL.out.mono HBW.out.size),HBW.out.size⟩ ⟨by simp,by simp,by simp⟩);match hro:rdObj B with
     |.error (c,a)=>
      have HD:=hid (docD_err h1 h2 HSI.out (by rw[←HBO.out];exact hro));have HRO:=hid hro;have HCE:=hid (rdObj_err hro);clear hro;go_wp2_with (first
       |(go_at_call 53;rw[HE.out];refine HOB.out.mono ?_;rintro e w3 hr;obtain⟨v,rfl,rfl,hE3,hB3⟩:=hr.isErr HRO.out;unfold objZ;have HR3:=hid ((HR1.out.keep HBL.out).ef hE3 (by omega));have HB3:Hid (Below w.heap.size w w3):=hB3.b;obtain⟨R0,R1,R2,K0,K1,K2⟩:=id HR3.out;have hw3:w.heap.size<w3.heap.size:=HR3.out.lt;clear hr hE3 hB3))
      obtain⟨s0,s1,s2,-,-,-⟩:=(HR3.out.put (.string ⟨#[]⟩) (.slice none 0 0) (.slice none 0 0)).keep ((Below.refl _ _).alloc (Nat.le_refl _) (Obj.cells #[.string ⟨#[]⟩,.slice none 0 0,.slice none 0 0] 41));refine bodyPost_ret (v:=.tuple #[.agg #[.string ⟨#[]⟩,.slice none 0 0,.slice none 0 0],.iface 123 (.agg #[.iface 443 (.pointer (some (adr (eIx c)))),.int .i64 0,.int .i64 (a:Int)])]) (by simp[results,Tryz.results27,go_sem,s0,s1,s2]) rfl ?_;exact decErr HD.out (eIx_ok HCE.out).1 (eIx_ok HCE.out).2 ((((HB3.out.setCell (Nat.le_refl _) _).setCell (Nat.le_refl _) _).setCell (Nat.le_refl _) _).alloc (by have:=HB3.out.size;simp;omega) _)
     |.ok (O,q)=>
      have HRO:=hid hro;have HFI:=hid (rdObj_ok hro);obtain⟨SB,hsb⟩:∃SB,sBad (O.imps.length+O.globs.length) O.globs 0=SB:=⟨_,rfl⟩;have HSBB:=hid hsb;cases SB with
      |some x=>
       obtain⟨ee,kk,ii⟩:=x;have HD:=hid (docD_bad h1 h2 HSI.out (by rw[←HBO.out];exact hro) hsb);have HLE:=hid (sBad_le _ _ hsb);clear hro hsb;go_wp2_with (first
        |(go_at_call 53;rw[HE.out];refine HOB.out.mono ?_;rintro e w3 hr;obtain⟨v,rfl,hO3,hS3,hq3,hE3,hB3⟩:=hr.isOk HRO.out;have hof3:=HFI.out.1;have HOA:=hid (ObjO.at hO3 hof3 HSB.out);obtain⟨ip,il,ic,gp,gl,gc,mid,G,rfl,hI,hm,hl,hG,he⟩:=hO3.own;obtain⟨iv',gv',hev,-,hIA,hGA⟩:=id HOA.out;simp only[Value.agg.injEq,Array.mk.injEq,List.cons.injEq,true_and,and_true]at hev;obtain⟨rfl,rfl⟩:=hev;have HIA:=hid hIA;have HGA:=hid hGA;have HO3:=hid hO3;have HR3:=hid ((HR1.out.keep HBL.out).ef hE3 (by omega));have HB3:Hid (Below w.heap.size w w3):=hB3.b;have HTA:=hid (HT.out.keep hB3.b);have HSA:=hid (HSE.out.keep hB3.b);have hw3:w.heap.size<w3.heap.size:=HR3.out.lt;have HSD:Hid (∀w',Below w3.heap.size w3 w'→Calls Tryz.prog 54 #[.agg #[.string O.name,.slice ip il ic,.slice gp gl gc]] w' fun e w''=>e=.returned (.iface 123 (.agg #[.iface 443 (.pointer (some (adr (ee+1)))),.int .i64 (kk:Int),.int .i64 (ii:Int)]))∧Below w'.heap.size w' w''):=(fun w' hb=>by have h:=objSound_any adr O.name _ _ O.imps O.globs w' (hIA.keep hb) (hGA.keep hb) hof3.good (HTA.out.keep hb) (HSA.out.keep hb);rw[HSBB.out]at h;exact h);clear hr hO3 hS3 hE3 hB3 hI hm hl hG he hIA hGA)
        |(go_at_call 54;refine(HSD.out _ ((Below.refl _ _).alloc (Nat.le_refl _) _)).mono ?_;rintro e w4 ⟨rfl,hb4⟩;have hb34:=((Below.refl w3.heap.size w3).alloc (Nat.le_refl _) (Obj.cells #[.string O.name,.slice ip il ic,.slice gp gl gc] 41)).trans (hb4.mono (by simp));have HB34:=hid hb34;have HR4:=hid (HR3.out.keep hb34);have HO4:=hid ((Bx3.new w3 (.string O.name) (.slice ip il ic) (.slice gp gl gc) 41).keep hb4);obtain⟨R0,R1,R2,K0,K1,K2⟩:=id HR4.out;obtain⟨O0,O1,O2,L0,L1,L2⟩:=id HO4.out;have hw4:w.heap.size<w4.heap.size:=HR4.out.lt;have hw5:w3.heap.size<w4.heap.size:=HO4.out.lt;clear hb4 hb34 HSD))
       obtain⟨s0,s1,s2,-,-,-⟩:=HR4.out.put (.string ⟨#[]⟩) (.slice none 0 0) (.slice none 0 0);refine bodyPost_ret (v:=.tuple #[.agg #[.string ⟨#[]⟩,.slice none 0 0,.slice none 0 0],.iface 123 (.agg #[.iface 443 (.pointer (some (adr (ee+1)))),.int .i64 (kk:Int),.int .i64 (ii:Int)])]) (by simp[results,Tryz.results27,go_sem,s0,s1,s2]) rfl ?_;exact decErr HD.out (by have:=HLE.out;omega) (kCode_next HLE.out) ((((HB3.out.trans (HB34.out.mono HB3.out.size)).setCell (Nat.le_refl _) _).setCell (Nat.le_refl _) _).setCell (Nat.le_refl _) _)
      |none=>
       have HD:=hid (docD_ok h1 h2 HSI.out (by rw[←HBO.out];exact hro) hsb);clear hro hsb;go_wp2_with (first
        |(go_at_call 53;rw[HE.out];refine HOB.out.mono ?_;rintro e w3 hr;obtain⟨v,rfl,hO3,hS3,hq3,hE3,hB3⟩:=hr.isOk HRO.out;have hof3:=HFI.out.1;have HOA:=hid (ObjO.at hO3 hof3 HSB.out);obtain⟨ip,il,ic,gp,gl,gc,mid,G,rfl,hI,hm,hl,hG,he⟩:=hO3.own;obtain⟨iv',gv',hev,-,hIA,hGA⟩:=id HOA.out;simp only[Value.agg.injEq,Array.mk.injEq,List.cons.injEq,true_and,and_true]at hev;obtain⟨rfl,rfl⟩:=hev;have HIA:=hid hIA;have HGA:=hid hGA;have HO3:=hid hO3;have HR3:=hid ((HR1.out.keep HBL.out).ef hE3 (by omega));have HB3:Hid (Below w.heap.size w w3):=hB3.b;have HTA:=hid (HT.out.keep hB3.b);have HSA:=hid (HSE.out.keep hB3.b);have hw3:w.heap.size<w3.heap.size:=HR3.out.lt;have HSD:Hid (∀w',Below w3.heap.size w3 w'→Calls Tryz.prog 54 #[.agg #[.string O.name,.slice ip il ic,.slice gp gl gc]] w' fun e w''=>e=.returned (.nilIface)∧Below w'.heap.size w' w''):=(fun w' hb=>by have h:=objSound_any adr O.name _ _ O.imps O.globs w' (hIA.keep hb) (hGA.keep hb) hof3.good (HTA.out.keep hb) (HSA.out.keep hb);rw[HSBB.out]at h;exact h);clear hr hO3 hS3 hE3 hB3 hI hm hl hG he hIA hGA)
        |(go_at_call 54;refine(HSD.out _ ((Below.refl _ _).alloc (Nat.le_refl _) _)).mono ?_;rintro e w4 ⟨rfl,hb4⟩;have hb34:=((Below.refl w3.heap.size w3).alloc (Nat.le_refl _) (Obj.cells #[.string O.name,.slice ip il ic,.slice gp gl gc] 41)).trans (hb4.mono (by simp));have HB34:=hid hb34;have HR4:=hid (HR3.out.keep hb34);have HO4:=hid ((Bx3.new w3 (.string O.name) (.slice ip il ic) (.slice gp gl gc) 41).keep hb4);obtain⟨R0,R1,R2,K0,K1,K2⟩:=id HR4.out;obtain⟨O0,O1,O2,L0,L1,L2⟩:=id HO4.out;have hw4:w.heap.size<w4.heap.size:=HR4.out.lt;have hw5:w3.heap.size<w4.heap.size:=HO4.out.lt;clear hb4 hb34 HSD))
       obtain⟨s0,s1,s2,-,-,-⟩:=HR4.out.put (.string O.name) (.slice ip il ic) (.slice gp gl gc);refine bodyPost_ret (v:=.tuple #[.agg #[.string O.name,.slice ip il ic,.slice gp gl gc],.nilIface]) (by simp[results,Tryz.results27,go_sem,s0,s1,s2]) rfl ?_;refine⟨(((HB3.out.trans (HB34.out.mono HB3.out.size)).setCell (Nat.le_refl _) _).setCell (Nat.le_refl _) _).setCell (Nat.le_refl _) _,_,_,rfl,?_⟩;rw[HD.out];refine⟨rfl,(HO3.out.off (bs:=[w.heap.size]) ((Off.of_below HB34.out).trans (puts3 w4 w.heap.size _ _ _)) (by simp;omega)).low (by simp;omega)⟩
    ·have hcmp:((s.extract (s.size-4) s.size).toList==(sumS B).toList)=false:=by
      rw[beq_eq_false_iff_ne,ByteArray.toList_eq,ByteArray.toList_eq];intro h;exact hsum (HSUM.out.1 (ByteArray.ext (Array.toList_inj.1 h)))
     rw[hcmp];have HD:=hid (docD_sum h1 h2 hsum);rw[show(((s.size-4:Nat)):Int)=(s.size:Int)-4 by omega]at HD;have x7:=(HSE.out.keep HBW.out).sum;have l7:7<w1.heap.size:=block_lt_of_cell x7;clear hsum hcmp HSUM;go_wp2_with (first
      |(go_at_call 38;refine(fAt_any _ _ _ _).mono ?_;rintro e w2 ⟨rfl,rfl⟩))
     obtain⟨s0,s1,s2,-,-,-⟩:=HR1.out.put (.string ⟨#[]⟩) (.slice none 0 0) (.slice none 0 0);refine bodyPost_ret (v:=.tuple #[.agg #[.string ⟨#[]⟩,.slice none 0 0,.slice none 0 0],.iface 123 (.agg #[.iface 443 (.pointer (some (adr 7))),.int .i64 0,.int .i64 ((s.size:Int)-4)])]) (by simp[results,Tryz.results27,go_sem,s0,s1,s2]) rfl ?_;exact decErr HD.out (by omega) rfl (((HBW.out.setCell (Nat.le_refl _) _).setCell (Nat.le_refl _) _).setCell (Nat.le_refl _) _)
end Go.Proofs.YtglihimiidiacaaGreatDoor
namespace Go.Proofs.YtglihimiidiacaaGreatDoor
open Go.RowKit Go.Sort
def DecT(w:World)(lo:Nat)(v:Value)(c k i:Int)(d:Except (Int×Int×Int) LObj):Prop:=
 match d with
 |.error (c',k',i')=>c=c'∧k=k'∧i=i'∧v=objZ
 |.ok O=>c=0∧k=0∧i=0∧ObjO w lo v O
theorem DecA.open{adr:Nat→Addr}{w:World}{lo:Nat}{v x:Value}{d:Except (Int×Int×Int) LObj}(h:DecA adr w lo v x d)(hS:SentAt w adr):∃(nm:ByteArray) (ip:Option Addr) (il ic:Nat) (gp:Option Addr) (gl gc:Nat),v=.agg #[.string nm,.slice ip il ic,.slice gp gl gc]∧∃c k i,Told w x c k i∧DecT w lo v c k i d:=by
 match d,h with
 |.error (c,k,i),h=>
  obtain⟨rfl,j,hj,rfl,hc⟩:=h;refine⟨_,_,_,_,_,_,_,rfl,c,k,i,?_,rfl,rfl,rfl,rfl⟩;rw[←hc];exact told_fault hS j hj k i
 |.ok O,h=>
  obtain⟨rfl,hO⟩:=h;obtain⟨ip,il,ic,gp,gl,gc,mid,G,rfl,-⟩:=hO.own;exact⟨_,_,_,_,_,_,_,rfl,0,0,0,told_nil w,rfl,rfl,rfl,hO⟩
theorem DecT.off{w w':World}{lo:Nat}{v:Value}{c k i:Int}{d:Except (Int×Int×Int) LObj}(h:DecT w lo v c k i d){bs:List Nat}(ho:Off bs w w')(hn:∀b∈bs,b<lo∨w.heap.size≤b):DecT w' lo v c k i d:=by
 match d,h with
 |.error (c',k',i'),h=>exact h
 |.ok O,⟨h1,h2,h3,h4⟩=>exact⟨h1,h2,h3,h4.off ho hn⟩
theorem DecT.low{w:World}{lo lo':Nat}{v:Value}{c k i:Int}{d:Except (Int×Int×Int) LObj}(h:DecT w lo v c k i d)(hl:lo'≤lo):DecT w lo' v c k i d:=by
 match d,h with
 |.error (c',k',i'),h=>exact h
 |.ok O,⟨h1,h2,h3,h4⟩=>exact⟨h1,h2,h3,h4.low hl⟩
def TDec(s:ByteArray)(w:World)(e:Ending)(w':World):Prop:=Below w.heap.size w w'∧∃(nm:ByteArray) (ip:Option Addr) (il ic:Nat) (gp:Option Addr) (gl gc:Nat) (c k i:Int),e=.returned (.tuple #[.agg #[.string nm,.slice ip il ic,.slice gp gl gc],.int .i64 c,.agg #[.int .i64 k,.int .i64 i]])∧DecT w' w.heap.size (.agg #[.string nm,.slice ip il ic,.slice gp gl gc]) c k i (docD s)
theorem two2(w:World):
 Below w.heap.size w ((w.alloc (Obj.cells #[.string ⟨#[]⟩,.slice none 0 0,.slice none 0 0] 41)).alloc (Obj.cells #[.int .i64 0,.int .i64 0] 47))∧
 Bx3 ((w.alloc (Obj.cells #[.string ⟨#[]⟩,.slice none 0 0,.slice none 0 0] 41)).alloc (Obj.cells #[.int .i64 0,.int .i64 0] 47)) w.heap.size (.string ⟨#[]⟩) (.slice none 0 0) (.slice none 0 0)∧
 Bx2 ((w.alloc (Obj.cells #[.string ⟨#[]⟩,.slice none 0 0,.slice none 0 0] 41)).alloc (Obj.cells #[.int .i64 0,.int .i64 0] 47)) (w.heap.size+1) (.int .i64 0) (.int .i64 0):=by
 refine⟨((Below.refl _ _).alloc (Nat.le_refl _) _).alloc (by simp) _,(Bx3.new w _ _ _ _).keep ((Below.refl _ _).alloc (Nat.le_refl _) _),?_⟩;have h:=Bx2.new (w.alloc (Obj.cells #[.string ⟨#[]⟩,.slice none 0 0,.slice none 0 0] 41)) (.int .i64 0) (.int .i64 0) 47;rw[show(w.alloc (Obj.cells #[.string ⟨#[]⟩,.slice none 0 0,.slice none 0 0] 41)).heap.size=w.heap.size+1 by simp]at h;exact h
set_option maxRecDepth 100000 in
set_option maxHeartbeats 8000000 in
theorem tarnDecode_any(s:ByteArray)(adr:Nat→Addr)(w:World)(hT:TabAt w)(hS:SentAt w adr):
 Calls Tryz.prog 14 #[.string s] w fun e w'=>TDec s w e w':=by
 obtain⟨hb0,hr0,hp0⟩:=two2 w;have HB0:=hid hb0;have HR0:=hid hr0;have HP0:=hid hp0;have HOD:=hid (objDecode_any s adr _ (hT.keep hb0) (hS.keep hb0));have HSE:=hid hS;have hsz:((w.alloc (Obj.cells #[.string ⟨#[]⟩,.slice none 0 0,.slice none 0 0] 41)).alloc (Obj.cells #[.int .i64 0,.int .i64 0] 47)).heap.size=w.heap.size+2:=by simp
 have HSZ:=hid hsz;clear hT hS hb0 hr0 hp0 hsz;go_enter Tryz.func14,Tryz.ntmps14;go_wp2_with (first
  |(go_at_call 27;refine HOD.out.mono ?_;rintro e w1 hr;obtain⟨hb1,v,x,rfl,hA⟩:=hr;obtain⟨nm,ip,il,ic,gp,gl,gc,rfl,c,k,i,hTo,hD⟩:=hA.open ((HSE.out.keep HB0.out).keep hb1);have HTO:=hid hTo;have HD:=hid hD;have HB1:=hid hb1;have HR1:=hid (HR0.out.keep hb1);have HP1:=hid (HP0.out.of_block (hb1.block _ HP0.out.lt));clear hb1 hA hTo hD HOD))
 have hw1:w.heap.size+1<w1.heap.size:=HP1.out.lt;have HX:=hid ((Below.refl w1.heap.size w1).alloc (Nat.le_refl _) (Obj.cells #[.string nm,.slice ip il ic,.slice gp gl gc] 41));have HRX:=hid (HR1.out.keep HX.out);have HPX:=hid (HP1.out.of_block (HX.out.block _ HP1.out.lt));have HOX:=hid (Bx3.new w1 (.string nm) (.slice ip il ic) (.slice gp gl gc) 41);generalize w1.alloc (Obj.cells #[.string nm,.slice ip il ic,.slice gp gl gc] 41)=X at*;obtain⟨r0,r1,r2,k0,k1,k2⟩:=id HRX.out;obtain⟨p0,p1,t0,t1⟩:=id HPX.out;obtain⟨o0,o1,o2,l0,l1,l2⟩:=id HOX.out;have hwx:w1.heap.size<X.heap.size:=HOX.out.lt;have hwx1:w.heap.size<X.heap.size:=HRX.out.lt;have hwx2:w.heap.size+1<X.heap.size:=HPX.out.lt;have HXD:Hid (Below X.heap.size X X.drew):=(Below.refl _ _).drew;go_region_with (first
  |(go_at_call 23;refine(HTO.out.kind _ (HX.out.trans (HXD.out.mono HX.out.size))).mono ?_;rintro e w2 ⟨rfl,hb2⟩;have HB2:Hid (Below X.heap.size X w2):=HXD.out.trans hb2;have HR2:=hid (HRX.out.keep HB2.out);have HP2:=hid (HPX.out.of_block (HB2.out.block _ HPX.out.lt));have HO2:=hid (HOX.out.keep HB2.out);obtain⟨ra0,ra1,ra2,ka0,ka1,ka2⟩:=id HR2.out;obtain⟨pa0,pa1,ta0,ta1⟩:=id HP2.out;obtain⟨oa0,oa1,oa2,la0,la1,la2⟩:=id HO2.out;clear hb2)
  |(go_at_call 24;refine(HTO.out.place _ (HX.out.trans (HB2.out.mono HX.out.size))).mono ?_;rintro e w3 ⟨rfl,hb3⟩;have HB3:Hid (Below X.heap.size X w3):=HB2.out.trans (hb3.mono HB2.out.size);have HR3:=hid (HRX.out.keep HB3.out);have HP3:=hid (HPX.out.of_block (HB3.out.block _ HPX.out.lt));have HO3:=hid (HOX.out.keep HB3.out);obtain⟨rb0,rb1,rb2,kb0,kb1,kb2⟩:=id HR3.out;obtain⟨pb0,pb1,tb0,tb1⟩:=id HP3.out;obtain⟨ob0,ob1,ob2,lb0,lb1,lb2⟩:=id HO3.out;clear hb3))
 all_goals go_wp2
 all_goals(obtain⟨s0,s1,s2,s3,s4⟩:=fin5_cells HR3.out HP3.out (by omega) (.string nm) (.slice ip il ic) (.slice gp gl gc) (.int .i64 k) (.int .i64 i);unfold fin5 at s0 s1 s2 s3 s4)
 all_goals refine bodyPost_ret (v:=.tuple #[.agg #[.string nm,.slice ip il ic,.slice gp gl gc],.int .i64 c,.agg #[.int .i64 k,.int .i64 i]]) (by simp[results,Tryz.results14,go_sem,s0,s1,s2,s3,s4]) rfl ?_
 all_goals(have hb13:=HX.out.trans (HB3.out.mono HX.out.size);have hbw:=HB0.out.trans (HB1.out.mono HB0.out.size))
 all_goals refine⟨fin5_below (hbw.trans (hb13.mono hbw.size)) (Nat.le_refl _) (Nat.le_succ _) _ _ _ _ _,nm,ip,il,ic,gp,gl,gc,c,k,i,rfl,?_⟩
 all_goals(have hof:Off [w.heap.size,w.heap.size+1] w1 (fin5 w3 w.heap.size (w.heap.size+1) (.string nm) (.slice ip il ic) (.slice gp gl gc) (.int .i64 k) (.int .i64 i)):=(((((Off.of_below hb13).set (Or.inl (by simp)) _).set (Or.inl (by simp)) _).set (Or.inl (by simp)) _).set (Or.inl (by simp)) _).set (Or.inl (by simp)) _;have h8:=HD.out;rw[HSZ.out]at h8;exact(h8.off hof (by simp)).low (by omega))
end Go.Proofs.YtglihimiidiacaaGreatDoor
namespace Go.Proofs.YtglihimiidiacaaGreatDoor
open Go.RowKit
def bA(s:ByteArray)(p:Nat):List Nat:=(tb s).drop p
def Bt(s:ByteArray)(p:Nat)(l:List Nat):Prop:=∃r,bA s p=l++r
section
variable {s:ByteArray} {p:Nat}
theorem bA_cons(h:p<s.size):bA s p=s[p].toNat::bA s (p+1):=by
 unfold bA;rw[List.drop_eq_getElem_cons (by rw[tb_len];exact h)];congr 1
 simp only[tb,List.getElem_map,Array.getElem_toList];rfl
theorem bA_nil(h:¬p<s.size):bA s p=[]:=List.drop_of_length_le (by rw[tb_len];omega)
theorem bA_drop(n:Nat):bA s (p+n)=(bA s p).drop n:=by unfold bA;rw[List.drop_drop]
theorem Bt.nil:Bt s p []:=⟨_,rfl⟩
theorem Bt.app{a b:List Nat}:Bt s p (a++b)↔Bt s p a∧Bt s (p+a.length) b:=by
 constructor
 ·rintro⟨r,h⟩;refine⟨⟨b++r,by rw[h,List.append_assoc]⟩,r,?_⟩;rw[bA_drop,h,List.append_assoc,List.drop_left]
 ·rintro⟨⟨r,h⟩,r',h'⟩;rw[bA_drop,h,List.drop_left]at h';exact⟨r',by rw[h,h',List.append_assoc]⟩
theorem Bt.cons{x:Nat}{l:List Nat}:Bt s p (x::l)↔(∃h:p<s.size,s[p].toNat=x)∧Bt s (p+1) l:=by
 by_cases hp:p<s.size
 ·constructor
  ·rintro⟨r,h⟩;rw[bA_cons hp,List.cons_append,List.cons.injEq]at h;exact⟨⟨hp,h.1⟩,r,h.2⟩
  ·rintro⟨⟨_,h⟩,r,h'⟩;exact⟨r,by rw[bA_cons hp,h,h'];rfl⟩
 ·constructor
  ·rintro⟨r,h⟩;rw[bA_nil hp]at h;cases h
  ·rintro⟨⟨h,_⟩,_⟩;exact absurd h hp
theorem Bt.le{l:List Nat}(h:Bt s p l)(hp:p≤s.size):p+l.length≤s.size:=by
 obtain⟨r,h⟩:=h;have:=congrArg List.length h;unfold bA at this;rw[List.length_drop,tb_len,List.length_append]at this;omega
theorem vRead_at{fr:Nat}:∀(m k p n:Nat),Bt s p (vb m)→(k=0∨0<m)→m*128 ^ k<18446744073709551616→vRead s fr k p n=.ok (n+m*128 ^ k,p+(vb m).length):=by
 intro m;induction m using Nat.strongRecOn with
 |ind m ih=>
  intro k p n hb hk hm;have hbig:9≤k→128 ^ 9≤128 ^ k:=fun h=>Nat.pow_le_pow_right (by omega) h;by_cases h1:m<128
  ·rw[vb_small h1]at hb ⊢;obtain⟨⟨hp,hx⟩,-⟩:=Bt.cons.1 hb;rw[vRead_end hp ?_ (by omega)]
   ·rw[hx,Nat.mod_eq_of_lt h1];rfl
   ·rw[hx];rintro(⟨rfl,h⟩|⟨h,rfl⟩)
    ·have:=Nat.mul_le_mul_right (128 ^ 9) h;omega
    ·omega
  ·rw[vb_big h1]at hb ⊢;obtain⟨⟨hp,hx⟩,hb⟩:=Bt.cons.1 hb;have hmk:=Nat.mul_le_mul_right (128 ^ k) (show 128≤m by omega);have hk9:k<9:=Nat.lt_of_not_le fun h=>by have:=hbig h;omega
   rw[vRead_more hp (by rw[hx];omega) (by rw[hx];omega)];have e1:(m / 128)*128 ^ (k+1)=(m / 128*128)*128 ^ k:=by rw[Nat.pow_succ,Nat.mul_comm (128 ^ k) 128,Nat.mul_assoc]
   have e2:m / 128*128*128 ^ k+m % 128*128 ^ k=m*128 ^ k:=by rw[←Nat.add_mul,Nat.div_add_mod']
   rw[ih (m / 128) (by omega) (k+1) (p+1) _ hb (Or.inr (by omega)) (by omega),hx,show(m % 128+128) % 128=m % 128 by omega];simp only[List.length_cons,Except.ok.injEq,Prod.mk.injEq];exact⟨by omega,by omega⟩
theorem vRead_inv{fr:Nat}:∀(f k p n v q:Nat),s.size-p≤f→k≤9→vRead s fr k p n=.ok (v,q)→∃m,v=n+m*128 ^ k∧Bt s p (vb m)∧q=p+(vb m).length∧(k=0∨0<m):=by
 intro f;induction f with
 |zero=>
  intro k p n v q hf hk h;rw[vRead_short (by omega)]at h;cases h
 |succ f ih=>
  intro k p n v q hf hk h;by_cases hp:p<s.size
  ·by_cases h1:(k=9∧1<s[p].toNat)∨(0<k∧s[p].toNat=0)
   ·rw[vRead_bad hp h1]at h;cases h
   ·by_cases h2:s[p].toNat<128
    ·rw[vRead_end hp h1 h2]at h;cases h;refine⟨s[p].toNat,by rw[Nat.mod_eq_of_lt h2],?_,by rw[vb_small h2];rfl,by omega⟩;rw[vb_small h2];exact Bt.cons.2 ⟨⟨hp,rfl⟩,Bt.nil⟩
    ·rw[vRead_more hp h1 h2]at h;have hlt:s[p].toNat<256:=s[p].toNat_lt;obtain⟨m,e,hb,hq,hm⟩:=ih (k+1) (p+1) _ v q (by omega) (by omega) h;have hm0:0<m:=by omega
     have e1:m*128 ^ (k+1)=(m*128)*128 ^ k:=by rw[Nat.pow_succ,Nat.mul_comm (128 ^ k) 128,Nat.mul_assoc]
     have hv:vb (m*128+s[p].toNat % 128)=s[p].toNat::vb m:=by
      rw[vb_big (by omega),show(m*128+s[p].toNat % 128) / 128=m by omega,show(m*128+s[p].toNat % 128) % 128+128=s[p].toNat by omega]
     refine⟨m*128+s[p].toNat % 128,?_,?_,?_,by omega⟩
     ·rw[Nat.add_mul,←e1,e];omega
     ·rw[hv];exact Bt.cons.2 ⟨⟨hp,rfl⟩,hb⟩
     ·rw[hv,List.length_cons];omega
  ·rw[vRead_short hp]at h;cases h
theorem rdV_iff{m q:Nat}:rdV s p=.ok (m,q)↔m<18446744073709551616∧Bt s p (vb m)∧q=p+(vb m).length:=by
 constructor
 ·intro h;obtain⟨m',e,hb,hq,-⟩:=vRead_inv (s.size-p) 0 p 0 m q (Nat.le_refl _) (by omega) h;rw[Nat.pow_zero,Nat.mul_one,Nat.zero_add]at e;subst e;exact⟨(rdV_ok h).1,hb,hq⟩
 ·rintro⟨h1,h2,rfl⟩;rw[rdV,vRead_at m 0 p 0 h2 (Or.inl rfl) (by omega),Nat.pow_zero,Nat.mul_one,Nat.zero_add]
theorem rdN_iff{lo hi m q:Nat}(hh:hi<18446744073709551616):rdN s lo hi p=.ok (m,q)↔(lo≤m∧m≤hi)∧Bt s p (vb m)∧q=p+(vb m).length:=by
 constructor
 ·intro h;have h1:=rdN_ok h;match h2:rdV s p with
  |.error e=>rw[rdN_v h2]at h;cases h
  |.ok (n,r)=>
   have h3:=rdV_iff.1 h2;by_cases h4:n<lo∨hi<n
   ·rw[rdN_bad h2 h4]at h;cases h
   ·rw[rdN_good h2 h4]at h;cases h;exact⟨⟨h1.1,h1.2.1⟩,h3.2⟩
 ·rintro⟨h1,h2,rfl⟩;exact rdN_good (rdV_iff.2 ⟨by omega,h2,rfl⟩) (by omega)
theorem tb_inj{a b:ByteArray}(h:tb a=tb b):a=b:=by
 unfold tb at h;have:=List.map_inj_right (f:=fun b:UInt8=>b.toNat) (fun x y h=>UInt8.toNat_inj.1 h)|>.1 h;exact ByteArray.ext (Array.toList_inj.1 this)
theorem tb_ext(a b:Nat):tb (s.extract a b)=((tb s).drop a).take (b-a):=by
 unfold tb;rw[ByteArray.data_extract,Array.toList_extract,List.extract_eq_take_drop,List.map_take,List.map_drop]
theorem ext_iff{t:ByteArray}{n:Nat}(hn:p+n≤s.size):s.extract p (p+n)=t↔Bt s p (tb t)∧t.size=n:=by
 have hl:((tb s).drop p).length=s.size-p:=by rw[List.length_drop,tb_len]
 constructor
 ·rintro rfl;refine⟨⟨bA s (p+n),?_⟩,?_⟩
  ·rw[tb_ext,bA_drop,Nat.add_sub_cancel_left];exact(List.take_append_drop ..).symm
  ·rw[←tb_len,tb_ext,List.length_take,hl];omega
 ·rintro⟨⟨r,h⟩,rfl⟩;refine tb_inj ?_;rw[tb_ext,Nat.add_sub_cancel_left,show(tb s).drop p=tb t++r from h,←tb_len,List.take_left]
theorem rdName_iff{t:ByteArray}{q:Nat}:rdName s p=.ok (t,q)↔nmB t=true∧Bt s p (nb t)∧q=p+(nb t).length:=by
 constructor
 ·intro h;match h1:rdV s p with
  |.error e=>rw[rdName_v h1]at h;cases h
  |.ok (n,r)=>
   by_cases h2:n<1∨16<n
   ·rw[rdName_size h1 h2]at h;cases h
   by_cases h3:s.size<r+n
   ·rw[rdName_short h1 h2 h3]at h;cases h
   cases h4:nmB (s.extract r (r+n)) with
   |false=>rw[rdName_bad h1 h2 h3 h4]at h;cases h
   |true=>
    rw[rdName_good h1 h2 h3 h4]at h;obtain⟨-,k2,k3⟩:=rdV_iff.1 h1;cases h;obtain⟨e1,e2⟩:=(ext_iff (s:=s) (p:=r) (n:=n) (by omega)).1 rfl;refine⟨h4,?_,?_⟩
    ·unfold nb;rw[e2];exact Bt.app.2 ⟨k2,k3▸e1⟩
    ·unfold nb;rw[List.length_append,tb_len,e2];omega
 ·rintro⟨h1,h2,rfl⟩;have h16:=nmB_size h1;have h0:0<t.size:=by
   simp only[nmB,Bool.and_eq_true,decide_eq_true_eq]at h1;exact h1.1.1.1
  unfold nb at h2 ⊢;obtain⟨k1,k2⟩:=Bt.app.1 h2;have hp:p<s.size:=by
   have hv:=k1;by_cases hs:p<s.size
   ·exact hs
   ·obtain⟨r,hr⟩:=hv;rw[bA_nil hs]at hr;have:=congrArg List.length hr;have h3:=vb_pos t.size;rw[List.length_append,List.length_nil]at this;omega
  have hle:=k1.le (Nat.le_of_lt hp);have hle2:=k2.le hle;rw[tb_len]at hle2;have he:=(ext_iff (s:=s) (n:=t.size) hle2).2 ⟨k2,rfl⟩;rw[rdName_good (rdV_iff.2 ⟨by omega,k1,rfl⟩) (by omega) (by omega) (by rw[he];exact h1),he,List.length_append,tb_len,Nat.add_assoc]
theorem rdNameB_iff{last:ByteArray}{imps:List LImp}{t:ByteArray}{q:Nat}:rdNameB s last imps p=.ok (t,q)↔(nmB t=true∧gtB t last=true∧hasN imps t=false)∧Bt s p (nb t)∧q=p+(nb t).length:=by
 constructor
 ·intro h;obtain⟨h1,h2,h3⟩:=rdNameB_ok h;obtain⟨k1,k2⟩:=rdName_iff.1 h1;exact⟨⟨k1,h2,h3⟩,k2⟩
 ·rintro⟨⟨h1,h2,h3⟩,h4⟩;exact rdNameB_good (rdName_iff.2 ⟨h1,h4⟩) (by rw[h2,h3];rfl)
end
end Go.Proofs.YtglihimiidiacaaGreatDoor
namespace Go.Proofs.YtglihimiidiacaaGreatDoor
open Go.RowKit
theorem bd_iff{α β:Type}{r:Rd α}{f:α→Nat→Rd β}{b:β}{t:Nat}:bd r f=.ok (b,t)↔∃a q,r=.ok (a,q)∧f a q=.ok (b,t):=⟨bd_ok_inv,fun⟨_,_,h1,h2⟩=>by rw[bd_ok h1];exact h2⟩
section
variable {s:ByteArray}
def AGr:List LAlt→List LAlt→Prop
 |_,[]=>True
 |got,x::m=>altOk x=true∧got.any (fun y=>y.tag==x.tag)=false∧AGr (got++[x]) m
theorem AGr_iff:∀(m got:List LAlt),AGr got m↔m.all altOk=true∧m.Pairwise (fun a b=>a.tag≠b.tag)∧∀x∈got,∀y∈m,x.tag≠y.tag
 |[],got=>by simp[AGr]
 |z::m,got=>by
  unfold AGr;rw[AGr_iff m (got++[z]),List.all_cons,Bool.and_eq_true,List.pairwise_cons,List.any_eq_false];constructor
  ·rintro⟨h1,h2,h3,h4,h5⟩;refine⟨⟨h1,h3⟩,⟨fun y hy=>h5 z (by simp) y hy,h4⟩,fun x hx y hy=>?_⟩;rcases List.mem_cons.1 hy with rfl|hy
   ·simpa using h2 x hx
   ·exact h5 x (List.mem_append_left _ hx) y hy
  ·rintro⟨⟨h1,h3⟩,⟨h6,h4⟩,h5⟩;refine⟨h1,fun x hx=>by simpa using h5 x hx z (by simp),h3,h4,fun x hx y hy=>?_⟩;rcases List.mem_append.1 hx with hx|hx
   ·exact h5 x hx y (List.mem_cons_of_mem _ hy)
   ·rw[List.mem_singleton.1 hx];exact h6 y hy
theorem AGr_nil(m:List LAlt):AGr [] m↔altsB m=true:=by
 rw[AGr_iff,altsB,Bool.and_eq_true,tagsApart_iff];simp
theorem altOk_iff(x:LAlt):altOk x=true↔(0≤x.tag∧x.tag≤255)∧0≤x.tto∧x.tto≤65535:=by
 simp only[altOk,Bool.and_eq_true,decide_eq_true_eq];omega
theorem rdAlts_iff:∀(n:Nat) (got:List LAlt) (p:Nat) (l:List LAlt) (q:Nat),rdAlts s n got p=.ok (l,q)↔∃m,l=got++m∧m.length=n∧AGr got m∧Bt s p (altBytes m)∧q=p+(altBytes m).length
 |0,got,p,l,q=>by
  simp only[rdAlts,Except.ok.injEq,Prod.mk.injEq];constructor
  ·rintro⟨rfl,rfl⟩;exact⟨[],by simp,rfl,trivial,Bt.nil,rfl⟩
  ·rintro⟨m,rfl,h,-,-,rfl⟩;obtain rfl:=List.length_eq_zero_iff.1 h;exact⟨by simp,rfl⟩
 |n+1,got,p,l,q=>by
  rw[rdAlts,bd_iff];constructor
  ·rintro⟨t,r,h1,h2⟩;obtain⟨k1,k2,rfl⟩:=(rdN_iff (by omega)).1 h1;cases ha:got.any (fun x=>x.tag==(t:Int)) with
   |true=>rw[if_pos ha]at h2;cases h2
   |false=>
    rw[if_neg (by rw[ha];decide),bd_iff]at h2;obtain⟨u,r2,h3,h4⟩:=h2;obtain⟨k3,k4,rfl⟩:=(rdN_iff (by omega)).1 h3;obtain⟨m,rfl,rfl,hg,hb,rfl⟩:=(rdAlts_iff n _ _ _ _).1 h4;have he:altBytes (⟨t,u⟩::m)=vb t++(vb u++altBytes m):=by simp[altBytes]
    refine⟨⟨t,u⟩::m,by simp,rfl,⟨(altOk_iff _).2 ⟨⟨by simp,by simp;omega⟩,by simp,by simp;omega⟩,ha,hg⟩,?_,?_⟩
    ·rw[he];exact Bt.app.2 ⟨k2,Bt.app.2 ⟨k4,hb⟩⟩
    ·rw[he];simp only[List.length_append];omega
  ·rintro⟨m,rfl,hm,hg,hb,rfl⟩;match m,hm,hg with
   |⟨t,u⟩::m,hm,hg=>
    obtain⟨h1,h2,h3⟩:=hg;obtain⟨⟨a1,a2⟩,a3,a4⟩:=(altOk_iff _).1 h1;simp only at a1 a2 a3 a4;obtain⟨t,rfl⟩:=Int.eq_ofNat_of_zero_le a1;obtain⟨u,rfl⟩:=Int.eq_ofNat_of_zero_le a3;have he:altBytes (⟨t,u⟩::m)=vb t++(vb u++altBytes m):=by simp[altBytes]
    rw[he]at hb ⊢;obtain⟨b1,b2⟩:=Bt.app.1 hb;obtain⟨b2,b3⟩:=Bt.app.1 b2;refine⟨t,_,(rdN_iff (by omega)).2 ⟨by omega,b1,rfl⟩,?_⟩;rw[if_neg (by rw[h2];decide),bd_iff];refine⟨u,_,(rdN_iff (by omega)).2 ⟨by omega,b2,rfl⟩,(rdAlts_iff n _ _ _ _).2 ⟨m,by simp,by simpa using hm,h3,b3,?_⟩⟩;simp only[List.length_append];omega
theorem unf_fA{a:Int}:unf (fA a)=a:=by
 unfold unf fA;split<;>split<;>omega
theorem fA_unf{n:Nat}:fA (unf n)=n:=by
 unfold unf fA;split<;>split<;>omega
theorem fA_lt{a:Int}(h:-9223372036854775808≤a∧a≤9223372036854775807):fA a<18446744073709551616:=by
 unfold fA;split<;>omega
theorem unf_range{n:Nat}(h:n<18446744073709551616):-9223372036854775808≤unf n∧unf n≤9223372036854775807:=by
 unfold unf;split<;>omega
def IG(x:LIns):Prop:=insG x.op x.a x.alts=true∧-9223372036854775808≤x.a∧x.a≤9223372036854775807
theorem insG_nat(op:Nat)(h:op<21)(a:Int)(l:List LAlt):insG (op:Int) a l=(if rowN op 0=1 then (l.length:Int)==0 else if rowN op 0=2 then ((l.length:Int)==0) && decide (rowN op 1≤a) && decide (a≤rowN op 2) else if rowN op 0=3 then (a==0) && altsGood l else (a==0) && ((l.length:Int)==0)):=by
 unfold insG;rw[if_pos (by omega),Int.toNat_natCast]
theorem insG_opN{x:LIns}(h:insG x.op x.a x.alts=true):∃op:Nat,x.op=op∧op<21:=by
 unfold insG at h;split at h
 ·rename_i h1
  exact⟨x.op.toNat,by omega,by omega⟩
 ·cases h
theorem rdArg_iff{op p q:Nat}{x:LIns}(ho:op<21):rdArg s op p=.ok (x,q)↔(x.op=op∧IG x)∧Bt s p (wb x).tail∧q=p+(wb x).tail.length:=by
 have hf:=row_facts op ho;have hw:∀(a:Int) (l:List LAlt),(wb ⟨op,a,l⟩).tail=if op=0 then vb (fA a) else if op=17 then vb l.length++altBytes l else if rowN op 0=2 then vb a.toNat else []:=by
  intro a l;unfold wb;simp only[List.tail_cons,Int.toNat_natCast];by_cases h0:op=0
  ·rw[if_pos h0,if_pos (by omega)]
  ·rw[if_neg h0,if_neg (by omega)];by_cases h1:op=17
   ·rw[if_pos h1,if_pos (by omega)]
   ·rw[if_neg h1,if_neg (by omega)]
 unfold rdArg;obtain⟨xo,xa,xl⟩:=x;constructor
 ·intro h;split at h
  ·rename_i e1
   obtain⟨n,r,h1,h2⟩:=bd_iff.1 h;obtain⟨k1,k2,rfl⟩:=rdV_iff.1 h1;cases h2;have h0:op=0:=hf.2.2.2.2.1.1 e1;have hx:=hw (unf n) [];rw[if_pos h0,fA_unf]at hx;rw[hx];exact⟨⟨rfl,by show insG _ _ _=true;rw[insG_nat op ho,if_pos e1];rfl,unf_range k1⟩,k2,rfl⟩
  ·rename_i e1
   have h0:¬op=0:=fun e=>e1 (hf.2.2.2.2.1.2 e);split at h
   ·rename_i e2
    obtain⟨n,r,h1,h2⟩:=bd_iff.1 h;obtain⟨k1,k2,rfl⟩:=(rdN_iff (by omega)).1 h1;cases h2;have h17:¬op=17:=fun e=>by have:=hf.2.2.2.2.2.1.2 e;omega
    have hx:=hw n [];rw[if_neg h0,if_neg h17,if_pos e2,Int.toNat_natCast]at hx;rw[hx];refine⟨⟨rfl,?_,by show _≤(n:Int);omega,by show(n:Int)≤_;omega⟩,k2,rfl⟩;show insG _ _ _=true;rw[insG_nat op ho,if_neg e1,if_pos e2];simp;omega
   ·rename_i e2
    split at h
    ·rename_i e3
     obtain⟨n,r,h1,h2⟩:=bd_iff.1 h;obtain⟨k1,k2,rfl⟩:=(rdN_iff (by omega)).1 h1;obtain⟨l,r2,h3,h4⟩:=bd_iff.1 h2;obtain⟨m,rfl,rfl,hg,hb,rfl⟩:=(rdAlts_iff _ _ _ _ _).1 h3;cases h4;have hx:=hw 0 xl;rw[if_neg h0,if_pos (hf.2.2.2.2.2.1.1 e3)]at hx;rw[hx];refine⟨⟨rfl,?_,by show _≤(0:Int);omega,by show(0:Int)≤_;omega⟩,Bt.app.2 ⟨k2,hb⟩,by rw[List.length_append];omega⟩;show insG _ _ _=true;rw[insG_nat op ho,if_neg e1,if_neg e2,if_pos e3];simp only[altsGood,(AGr_nil _).1 hg];simp;omega
    ·rename_i e3
     cases h;have hx:=hw 0 [];rw[if_neg h0,if_neg (fun e=>e3 (hf.2.2.2.2.2.1.2 e)),if_neg e2]at hx;rw[hx];refine⟨⟨rfl,?_,by show _≤(0:Int);omega,by show(0:Int)≤_;omega⟩,Bt.nil,rfl⟩;show insG _ _ _=true;rw[insG_nat op ho,if_neg e1,if_neg e2,if_neg e3];rfl
 ·rintro⟨⟨rfl,hG,hr⟩,hb,rfl⟩;simp only at hG hr;rw[hw]at hb ⊢;rw[insG_nat op ho]at hG;split
  ·rename_i e1
   have h0:op=0:=hf.2.2.2.2.1.1 e1;rw[if_pos e1]at hG;rw[if_pos h0]at hb ⊢;have hl:xl=[]:=by simpa using hG
   subst hl;refine bd_iff.2 ⟨fA xa,_,rdV_iff.2 ⟨fA_lt hr,hb,rfl⟩,?_⟩;rw[unf_fA]
  ·rename_i e1
   have h0:¬op=0:=fun e=>e1 (hf.2.2.2.2.1.2 e);rw[if_neg e1]at hG;rw[if_neg h0]at hb ⊢;split
   ·rename_i e2
    have h17:¬op=17:=fun e=>by have:=hf.2.2.2.2.2.1.2 e;omega
    rw[if_pos e2]at hG;rw[if_neg h17,if_pos e2]at hb;rw[if_neg h17];simp only[Bool.and_eq_true,decide_eq_true_eq]at hG;have hl:xl=[]:=by simpa using hG.1.1
    subst hl;obtain⟨a,rfl⟩:=Int.eq_ofNat_of_zero_le (show 0≤xa by omega);rw[Int.toNat_natCast]at hb ⊢;exact bd_iff.2 ⟨a,_,(rdN_iff (by omega)).2 ⟨by omega,hb,rfl⟩,rfl⟩
   ·rename_i e2
    rw[if_neg e2]at hG;split
    ·rename_i e3
     rw[if_pos e3]at hG;rw[if_pos (hf.2.2.2.2.2.1.1 e3)]at hb ⊢;simp only[altsGood,Bool.and_eq_true,decide_eq_true_eq]at hG;have ha:xa=0:=by simpa using hG.1
     subst ha;obtain⟨b1,b2⟩:=Bt.app.1 hb;refine bd_iff.2 ⟨xl.length,_,(rdN_iff (by omega)).2 ⟨by omega,b1,rfl⟩,bd_iff.2 ⟨xl,_,(rdAlts_iff _ _ _ _ _).2 ⟨xl,rfl,rfl,(AGr_nil _).2 hG.2.2,b2,rfl⟩,?_⟩⟩;rw[List.length_append,Nat.add_assoc]
    ·rename_i e3
     rw[if_neg e3]at hG;rw[if_neg (fun e=>e3 (hf.2.2.2.2.2.1.2 e))];simp only[Bool.and_eq_true]at hG;have ha:xa=0:=by simpa using hG.1
     have hl:xl=[]:=by simpa using hG.2
     subst ha hl;rfl
theorem wb_split{x:LIns}{op:Nat}(h:x.op=op):wb x=op::(wb x).tail:=by
 unfold wb;rw[h,Int.toNat_natCast,List.tail_cons]
theorem rdIns_iff{p q:Nat}{x:LIns}:rdIns s p=.ok (x,q)↔IG x∧Bt s p (wb x)∧q=p+(wb x).length:=by
 unfold rdIns;rw[bd_iff];constructor
 ·rintro⟨op,r,h1,h2⟩;obtain⟨k1,k2,rfl⟩:=(rdN_iff (by omega)).1 h1;obtain⟨⟨e,hG⟩,hb,rfl⟩:=(rdArg_iff (by omega)).1 h2;rw[vb_small (by omega)]at k2 hb ⊢;refine⟨hG,?_,?_⟩
  ·rw[wb_split e];exact Bt.app.2 ⟨k2,hb⟩
  ·rw[wb_split e,List.tail_cons];simp only[List.length_cons,List.length_nil];omega
 ·rintro⟨hG,hb,rfl⟩;obtain⟨op,e,ho⟩:=insG_opN hG.1;rw[wb_split e]at hb;obtain⟨b1,b2⟩:=Bt.app (a:=[op]).1 hb;have hv:=vb_small (show op<128 by omega);refine⟨op,_,(rdN_iff (by omega)).2 ⟨by omega,by rw[hv];exact b1,rfl⟩,(rdArg_iff ho).2 ⟨⟨e,hG⟩,by rw[hv];exact b2,?_⟩⟩;rw[hv,wb_split e,List.tail_cons];simp only[List.length_cons,List.length_nil];omega
theorem rdCode_iff:∀(n:Nat) (got:List LIns) (p:Nat) (l:List LIns) (q:Nat),rdCode s n got p=.ok (l,q)↔∃m,l=got++m∧m.length=n∧(∀x∈m,IG x)∧Bt s p (m.flatMap wb)∧q=p+(m.flatMap wb).length
 |0,got,p,l,q=>by
  simp only[rdCode,Except.ok.injEq,Prod.mk.injEq];constructor
  ·rintro⟨rfl,rfl⟩;exact⟨[],by simp,rfl,(fun _ h=>by cases h),Bt.nil,rfl⟩
  ·rintro⟨m,rfl,h,-,-,rfl⟩;obtain rfl:=List.length_eq_zero_iff.1 h;exact⟨by simp,rfl⟩
 |n+1,got,p,l,q=>by
  rw[rdCode,bd_iff];constructor
  ·rintro⟨x,r,h1,h2⟩;obtain⟨k1,k2,rfl⟩:=rdIns_iff.1 h1;obtain⟨m,rfl,rfl,hg,hb,rfl⟩:=(rdCode_iff n _ _ _ _).1 h2;refine⟨x::m,by simp,rfl,fun y hy=>?_,?_,?_⟩
   ·rcases List.mem_cons.1 hy with rfl|hy
    ·exact k1
    ·exact hg y hy
   ·rw[List.flatMap_cons];exact Bt.app.2 ⟨k2,hb⟩
   ·rw[List.flatMap_cons,List.length_append];omega
  ·rintro⟨m,rfl,hm,hg,hb,rfl⟩;match m,hm,hg with
   |x::m,hm,hg=>
    rw[List.flatMap_cons]at hb ⊢;obtain⟨b1,b2⟩:=Bt.app.1 hb;refine⟨x,_,rdIns_iff.2 ⟨hg x (by simp),b1,rfl⟩,(rdCode_iff n _ _ _ _).2 ⟨m,by simp,by simpa using hm,fun y hy=>hg y (List.mem_cons_of_mem _ hy),b2,?_⟩⟩;rw[List.length_append];omega
end
end Go.Proofs.YtglihimiidiacaaGreatDoor
