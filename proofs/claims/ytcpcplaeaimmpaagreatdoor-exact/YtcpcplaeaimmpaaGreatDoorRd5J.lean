import Derived.Test.YtcpcplaeaimmpaaGreatDoorRd3J
set_option maxRecDepth 100000
set_option maxHeartbeats 8000000
namespace Go.Proofs.YtcpcplaeaimmpaaGreatDoor
open Go.RowKit Go.Sort
def insV(lo:Nat):World->LIns->Value->Prop:=λw x v=>∃(ap:Option Addr) (an ac:Nat),v=.agg #[.int .i64 x.op,.int .i64 x.a,.slice ap an ac]∧AltsO w lo (.slice ap an ac) x.alts
def insZ:Value->Prop:=λv=>∃(a b:Int) (ap:Option Addr) (an ac:Nat),v=.agg #[.int .i64 a,.int .i64 b,.slice ap an ac]
theorem puts3(w:World)(R:Nat)(x y z:Value):Off [R] w (((w.setCell ⟨R,0,none⟩ x).setCell ⟨R,1,none⟩ y).setCell ⟨R,2,none⟩ z):=(((Off.refl _ _).set (Or.inl (by simp)) _).set (Or.inl (by simp)) _).set (Or.inl (by simp)) _
theorem rInsGood{W w wX wF:World}{E:Nat}{adr:Nat->Addr}{s:ByteArray}{p q:Nat}{op a:Int}{l:List LAlt}{ap:Option Addr}{an ac:Nat}(hE:E<w.heap.size)(hB:Ba W w E adr)(hr:rdIns s p=.ok (⟨op,a,l⟩,q))(hS:RS wX E s q)(hq:q<=s.size)(hO:Off [E] w wX)(hA:AltsO wX (w.heap.size+1) (.slice ap an ac) l)(hF:Below (((wX.setCell ⟨w.heap.size,0,none⟩ (.int .i64 op)).setCell ⟨w.heap.size,1,none⟩ (.int .i64 a)).setCell ⟨w.heap.size,2,none⟩ (.slice ap an ac)).heap.size (((wX.setCell ⟨w.heap.size,0,none⟩ (.int .i64 op)).setCell ⟨w.heap.size,1,none⟩ (.int .i64 a)).setCell ⟨w.heap.size,2,none⟩ (.slice ap an ac)) wF):
 ReadSt W E adr s (rdIns s p) (insV w.heap.size) insZ w (.returned (.tuple #[.agg #[.int .i64 op,.int .i64 a,.slice ap an ac],.nilIface])) wF:=by
 have ho:=puts3 wX w.heap.size (.int .i64 op) (.int .i64 a) (.slice ap an ac);refine ReadSt.good hr ⟨ap,an,ac,rfl,((hA.off okAlt ho (by simp)).keep okAlt hF).low (Nat.le_succ _)⟩ ((hS.off ho (by simp;omega)).keep hF) hq ?_ hB;exact((((hO.set (Or.inr (Nat.le_refl _)) _).set (Or.inr (Nat.le_refl _)) _).set (Or.inr (Nat.le_refl _)) _).trans (Off.of_below hF)).ef (by simp)
theorem rInsBad{W w wX wF:World}{E:Nat}{adr:Nat->Addr}{s:ByteArray}{p:Nat}{c x:Nat}{op a:Int}{ap:Option Addr}{an ac:Nat}(hB:Ba W w E adr)(hr:rdIns s p=.error (c,x))(hO:Off [E] w wX)(hF:Below (((wX.setCell ⟨w.heap.size,0,none⟩ (.int .i64 op)).setCell ⟨w.heap.size,1,none⟩ (.int .i64 a)).setCell ⟨w.heap.size,2,none⟩ (.slice ap an ac)).heap.size (((wX.setCell ⟨w.heap.size,0,none⟩ (.int .i64 op)).setCell ⟨w.heap.size,1,none⟩ (.int .i64 a)).setCell ⟨w.heap.size,2,none⟩ (.slice ap an ac)) wF):
 ReadSt W E adr s (rdIns s p) (insV w.heap.size) insZ w (.returned (.tuple #[.agg #[.int .i64 op,.int .i64 a,.slice ap an ac],.iface 81 (.agg #[.iface 447 (.pointer (some (adr (eIx c)))),.int .i64 0,.int .i64 (x:Int)])])) wF:=by
 refine ReadSt.bad hr ⟨op,a,ap,an,ac,rfl⟩ ?_ hB;exact((((hO.set (Or.inr (Nat.le_refl _)) _).set (Or.inr (Nat.le_refl _)) _).set (Or.inr (Nat.le_refl _)) _).trans (Off.of_below hF)).ef (by simp)
theorem rdIns_wh{s:ByteArray}{p q op:Nat}(h:rdN s 0 20 p=.ok (op,q))(hk:rowN op 0=1):rdIns s p=bd (rdWh s q) λa r=>.ok (⟨op,a,[]⟩,r):=by
 rw[rdIns,bd_ok h,rdArg,if_pos hk,rdWh];match rdV s q with
 |.error e=>rfl
 |.ok (n,r)=>rfl
theorem rdIns_bd{s:ByteArray}{p q op:Nat}(h:rdN s 0 20 p=.ok (op,q))(hk:rowN op 0=2):rdIns s p=bd (rdN s (rowN op 1).toNat (rowN op 2).toNat q) λn r=>.ok (⟨op,n,[]⟩,r):=by
 rw[rdIns,bd_ok h,rdArg,if_neg (by rw[hk];decide),if_pos hk]
theorem rdIns_al{s:ByteArray}{p q op:Nat}(h:rdN s 0 20 p=.ok (op,q))(hk:rowN op 0=3):rdIns s p=bd (rdAltsN s q) λl r=>.ok (⟨op,0,l⟩,r):=by
 rw[rdIns,bd_ok h,rdArg,if_neg (by rw[hk];decide),if_neg (by rw[hk];decide),if_pos hk,rdAltsN];match rdN s 1 256 q with
 |.error e=>rfl
 |.ok (n,r)=>rfl
theorem rdIns_no{s:ByteArray}{p q op:Nat}(h:rdN s 0 20 p=.ok (op,q))(hk:rowN op 0=0):rdIns s p=.ok (⟨op,0,[]⟩,q):=by
 rw[rdIns,bd_ok h,rdArg,hk];rfl
theorem rdIns_any{W w:World}{E:Nat}{adr:Nat->Addr}{s:ByteArray}{p:Nat}(hs:s.size<=100000)(hB:Ba W w E adr)(h:RS w E s p)(hp:p<=s.size):
 Calls Tryz.prog 155 #[.pointer (some ⟨E,0,none⟩)] w λe w'=>ReadSt W E adr s (rdIns s p) (insV w.heap.size) insZ w e w':=by
 have hE:E<w.heap.size:=h.lt;have HN:Hid (∀ob,Calls Tryz.prog 88 #[.pointer (some ⟨E,0,none⟩),.int .i64 0,.int .i64 20] (w.alloc ob) λe w'=>ReadSt W E adr s (rdN s 0 20 p) isInt zInt (w.alloc ob) e w'):=λob=>rdWithin_any (lo:=0) (hi:=20) hs (hB.keep ((Below.refl _ _).alloc (Nat.le_refl _) _)) (h.keep ((Below.refl _ _).alloc (Nat.le_refl _) _)) hp (by omega) (by omega);have HB:=hid hB;clear h hB;match hv:rdN s 0 20 p with
 |.error (c,a)=>
  have HR:Hid (rdIns s p=.error (c,a)):=bd_err hv;have HRV:=hid hv;clear hv;go_enter Tryz.func155,Tryz.ntmps155;go_wp2_with (first
   |(go_at_call 88;refine(HN.out _).mono ?_;rintro e w1 hr;obtain⟨v,rfl,rfl,hE1,hB1⟩:=hr.isErr HRV.out;have HO1:=hid (((Off.refl [E] w).alloc _).trans (Off.of_ef hE1 (by simp)));have HR1:=hid ((Bx3.new w _ _ _ _).ef hE1 (by omega));obtain⟨r0,r1,r2,k0,k1,k2⟩:=id HR1.out;have hw1:w.heap.size<w1.heap.size:=HR1.out.lt;clear hr hE1 hB1 HN))
  obtain⟨s0,s1,s2,-,-,-⟩:=HR1.out.put (.int .i64 0) (.int .i64 0) (.slice none 0 0);refine bodyPost_ret (v:=.tuple #[.agg #[.int .i64 0,.int .i64 0,.slice none 0 0],.iface 81 (.agg #[.iface 447 (.pointer (some (adr (eIx c)))),.int .i64 0,.int .i64 (a:Int)])]) (by simp[results,Tryz.results155,go_sem,s0,s1,s2]) rfl ?_;exact rInsBad HB.out HR.out HO1.out (Below.refl _ _)
 |.ok (op,q)=>
  have hop:op<21:=by have:=rdN_ok hv;omega
  have hq:=(rdN_ok hv).2.2.2;obtain⟨f1,f2,f3,f4,f5,f6,f7,f8⟩:=row_facts op hop;have HRV:=hid hv;by_cases kk0:rowN op 0=0
  ·have HR:=hid (rdIns_no hv kk0);clear hv;go_enter Tryz.func155,Tryz.ntmps155;go_wp2_with (first
    |(go_at_call 88;refine(HN.out _).mono ?_;rintro e w1 hr;obtain⟨v,rfl,rfl,hS1,hq1,hE1,hB1⟩:=hr.isOk HRV.out;have HS1:=hid hS1;have HB1:=hid hB1;have HO1:=hid (((Off.refl [E] w).alloc _).trans (Off.of_ef hE1 (by simp)));have HR1:=hid ((Bx3.new w _ _ _ _).ef hE1 (by omega));obtain⟨r0,r1,r2,k0,k1,k2⟩:=id HR1.out;have hw1:w.heap.size<w1.heap.size:=HR1.out.lt;clear hr hS1 hE1 hB1 HN)
    |(go_at_call 120;refine(kindOf_any op 0 _ hop (by have h:=(HB1.out.keep ((Below.refl _ _).alloc (Nat.le_refl _) (Obj.cells #[.int .i64 (op:Int),.int .i64 0,.slice none 0 0] 89))).tab.row op 0 hop (by omega);rw[kk0]at h;exact h)).mono ?_;rintro e w2 ⟨rfl,rfl⟩))
   obtain⟨s0,s1,s2,-,-,-⟩:=(HR1.out.put (.int .i64 (op:Int)) (.int .i64 0) (.slice none 0 0)).keep ((Below.refl _ _).alloc (Nat.le_refl _) (Obj.cells #[.int .i64 (op:Int),.int .i64 0,.slice none 0 0] 89));refine bodyPost_ret (v:=.tuple #[.agg #[.int .i64 (op:Int),.int .i64 0,.slice none 0 0],.nilIface]) (by simp[results,Tryz.results155,go_sem,s0,s1,s2]) rfl ?_;exact rInsGood hE HB.out HR.out HS1.out hq HO1.out (RowS.nil _ _) ((Below.refl _ _).alloc (Nat.le_refl _) _)
  ·have kne0:((0:Int)==rowN op 0)=false:=by rw[beq_eq_false_iff_ne];omega
   by_cases kk1:rowN op 0=1
   ·have HC:=hid (rdIns_wh hv kk1);clear hv;have HW:Hid (∀w',RS w' E s q->Ba W w' E adr->Calls Tryz.prog 188 #[.pointer (some ⟨E,0,none⟩)] w' λe w''=>ReadSt W E adr s (rdWh s q) isI zInt w' e w''):=λw' hS hB=>rdWhole_any hs hB hS hq;match hv2:rdWh s q with
    |.error (c,a)=>
     have HR:Hid (rdIns s p=.error (c,a)):=by show _=_;rw[HC.out,bd_err hv2]
     have HV2:=hid hv2;clear hv2;go_enter Tryz.func155,Tryz.ntmps155;go_wp2_with (first
      |(go_at_call 88;refine(HN.out _).mono ?_;rintro e w1 hr;obtain⟨v,rfl,rfl,hS1,hq1,hE1,hB1⟩:=hr.isOk HRV.out;have HS1:=hid hS1;have HB1:=hid hB1;have HO1:=hid (((Off.refl [E] w).alloc _).trans (Off.of_ef hE1 (by simp)));have HR1:=hid ((Bx3.new w _ _ _ _).ef hE1 (by omega));obtain⟨r0,r1,r2,k0,k1,k2⟩:=id HR1.out;have hw1:w.heap.size<w1.heap.size:=HR1.out.lt;have hEw1:E<w1.heap.size:=(by omega);have HBI:=hid ((Below.refl w1.heap.size w1).alloc (Nat.le_refl _) (Obj.cells #[.int .i64 (op:Int),.int .i64 0,.slice none 0 0] 89));clear hr hS1 hE1 hB1 HN)
      |(go_at_call 120;refine(kindOf_any op 1 _ hop (by have h:=(HB1.out.keep HBI.out).tab.row op 0 hop (by omega);rw[kk1]at h;exact h)).mono ?_;rintro e w2 ⟨rfl,rfl⟩)
      |(go_at_call 188;refine(HW.out _ (HS1.out.keep HBI.out) (HB1.out.keep HBI.out)).mono ?_;rintro e w3 hr;obtain⟨v,rfl,rfl,hE2,hB2⟩:=hr.isErr HV2.out;have HO2:=hid ((HO1.out.trans (Off.of_below HBI.out)).trans (Off.of_ef hE2 (by simp)));have HR2:=hid ((HR1.out.keep HBI.out).ef hE2 (by omega));have HI2:=hid ((Bx3.new w1 (.int .i64 (op:Int)) (.int .i64 0) (.slice none 0 0) 89).ef hE2 (by omega));obtain⟨R0,R1,R2,K0,K1,K2⟩:=id HR2.out;obtain⟨I0,I1,I2,J0,J1,J2⟩:=id HI2.out;have hI':w1.heap.size<w3.heap.size:=HI2.out.lt;have hR2':w.heap.size<w3.heap.size:=(by omega);clear hr hE2 hB2))
     have HBX:=hid (HR2.out.off (bs:=[w1.heap.size]) ((Off.refl _ _).set (b:=w1.heap.size) (o:=1) (Or.inl (by simp)) (.int .i64 0)) (by simp;omega));obtain⟨s0,s1,s2,-,-,-⟩:=HBX.out.put (.int .i64 (op:Int)) (.int .i64 (0)) (.slice none 0 0);refine bodyPost_ret (v:=.tuple #[.agg #[.int .i64 (op:Int),.int .i64 (0),.slice none 0 0],.iface 81 (.agg #[.iface 447 (.pointer (some (adr (eIx c)))),.int .i64 0,.int .i64 (a:Int)])]) (by simp[results,Tryz.results155,go_sem,s0,s1,s2]) rfl ?_;exact rInsBad HB.out HR.out (HO2.out.set (Or.inr (by omega)) _) (Below.refl _ _)
    |.ok (x,q2)=>
     have HR:Hid (rdIns s p=.ok (⟨op,x,[]⟩,q2)):=by show _=_;rw[HC.out,bd_ok hv2]
     have HV2:=hid hv2;clear hv2;go_enter Tryz.func155,Tryz.ntmps155;go_wp2_with (first
      |(go_at_call 88;refine(HN.out _).mono ?_;rintro e w1 hr;obtain⟨v,rfl,rfl,hS1,hq1,hE1,hB1⟩:=hr.isOk HRV.out;have HS1:=hid hS1;have HB1:=hid hB1;have HO1:=hid (((Off.refl [E] w).alloc _).trans (Off.of_ef hE1 (by simp)));have HR1:=hid ((Bx3.new w _ _ _ _).ef hE1 (by omega));obtain⟨r0,r1,r2,k0,k1,k2⟩:=id HR1.out;have hw1:w.heap.size<w1.heap.size:=HR1.out.lt;have hEw1:E<w1.heap.size:=(by omega);have HBI:=hid ((Below.refl w1.heap.size w1).alloc (Nat.le_refl _) (Obj.cells #[.int .i64 (op:Int),.int .i64 0,.slice none 0 0] 89));clear hr hS1 hE1 hB1 HN)
      |(go_at_call 120;refine(kindOf_any op 1 _ hop (by have h:=(HB1.out.keep HBI.out).tab.row op 0 hop (by omega);rw[kk1]at h;exact h)).mono ?_;rintro e w2 ⟨rfl,rfl⟩)
      |(go_at_call 188;refine(HW.out _ (HS1.out.keep HBI.out) (HB1.out.keep HBI.out)).mono ?_;rintro e w3 hr;obtain⟨v,rfl,rfl,hS3,hq3,hE2,hB2⟩:=hr.isOk HV2.out;have HS3:=hid hS3;have HO2:=hid ((HO1.out.trans (Off.of_below HBI.out)).trans (Off.of_ef hE2 (by simp)));have HR2:=hid ((HR1.out.keep HBI.out).ef hE2 (by omega));have HI2:=hid ((Bx3.new w1 (.int .i64 (op:Int)) (.int .i64 0) (.slice none 0 0) 89).ef hE2 (by omega));obtain⟨R0,R1,R2,K0,K1,K2⟩:=id HR2.out;obtain⟨I0,I1,I2,J0,J1,J2⟩:=id HI2.out;have hI':w1.heap.size<w3.heap.size:=HI2.out.lt;have hR2':w.heap.size<w3.heap.size:=(by omega);clear hr hE2 hB2 hS3))
     have HBX:=hid (HR2.out.off (bs:=[w1.heap.size]) ((Off.refl _ _).set (b:=w1.heap.size) (o:=1) (Or.inl (by simp)) (.int .i64 x)) (by simp;omega));obtain⟨s0,s1,s2,-,-,-⟩:=HBX.out.put (.int .i64 (op:Int)) (.int .i64 (x)) (.slice none 0 0);refine bodyPost_ret (v:=.tuple #[.agg #[.int .i64 (op:Int),.int .i64 (x),.slice none 0 0],.nilIface]) (by simp[results,Tryz.results155,go_sem,s0,s1,s2]) rfl ?_;exact rInsGood hE HB.out HR.out (HS3.out.off (bs:=[w1.heap.size]) ((Off.refl _ _).set (b:=w1.heap.size) (Or.inl (by simp)) _) (by simp;omega)) hq3 (HO2.out.set (Or.inr (by omega)) _) (RowS.nil _ _) (Below.refl _ _)
   ·by_cases kk2:rowN op 0=2
    ·have HC:=hid (rdIns_bd hv kk2);clear hv;obtain⟨l,hl⟩:∃l:Nat,rowN op 1=(l:Int):=⟨_,(Int.toNat_of_nonneg f1).symm⟩;obtain⟨h2,hh⟩:∃l:Nat,rowN op 2=(l:Int):=⟨_,(Int.toNat_of_nonneg f3).symm⟩;rw[hl,hh,Int.toNat_natCast,Int.toNat_natCast]at HC;have HW:Hid (∀w',RS w' E s q->Ba W w' E adr->Calls Tryz.prog 88 #[.pointer (some ⟨E,0,none⟩),.int .i64 (l:Int),.int .i64 (h2:Int)] w' λe w''=>ReadSt W E adr s (rdN s l h2 q) isInt zInt w' e w''):=λw' hS hB=>rdWithin_any hs hB hS hq (by omega) (by omega);have HL:=hid hl;have HH:=hid hh;clear hl hh;match hv2:rdN s l h2 q with
     |.error (c,a)=>
      have HR:Hid (rdIns s p=.error (c,a)):=by show _=_;rw[HC.out,bd_err hv2]
      have HV2:=hid hv2;clear hv2;go_enter Tryz.func155,Tryz.ntmps155;go_wp2_with (first
       |(go_at_call 88;refine(HN.out _).mono ?_;rintro e w1 hr;obtain⟨v,rfl,rfl,hS1,hq1,hE1,hB1⟩:=hr.isOk HRV.out;have HS1:=hid hS1;have HB1:=hid hB1;have HO1:=hid (((Off.refl [E] w).alloc _).trans (Off.of_ef hE1 (by simp)));have HR1:=hid ((Bx3.new w _ _ _ _).ef hE1 (by omega));obtain⟨r0,r1,r2,k0,k1,k2⟩:=id HR1.out;have hw1:w.heap.size<w1.heap.size:=HR1.out.lt;have hEw1:E<w1.heap.size:=(by omega);have HBI:=hid ((Below.refl w1.heap.size w1).alloc (Nat.le_refl _) (Obj.cells #[.int .i64 (op:Int),.int .i64 0,.slice none 0 0] 89));clear hr hS1 hE1 hB1 HN)
       |(go_at_call 120;refine(kindOf_any op 2 _ hop (by have h:=(HB1.out.keep HBI.out).tab.row op 0 hop (by omega);rw[kk2]at h;exact h)).mono ?_;rintro e w2 ⟨rfl,rfl⟩)
       |(go_at_call 152;refine(bounds_any op (l:Int) (h2:Int) _ hop (by have h:=(HB1.out.keep HBI.out).tab.row op 1 hop (by omega);rw[HL.out]at h;exact h) (by have h:=(HB1.out.keep HBI.out).tab.row op 2 hop (by omega);rw[HH.out]at h;exact h)).mono ?_;rintro e w2 ⟨rfl,m2,rfl⟩)
       |(go_at_call 88;refine(HW.out _ (HS1.out.keep (below_drewN HBI.out m2)) (HB1.out.keep (below_drewN HBI.out m2))).mono ?_;rintro e w3 hr;obtain⟨v,rfl,rfl,hE2,hB2⟩:=hr.isErr HV2.out;have HO2:=hid ((HO1.out.trans (Off.of_below (below_drewN HBI.out m2))).trans (Off.of_ef hE2 (by simp)));have HR2:=hid ((HR1.out.keep (below_drewN HBI.out m2)).ef hE2 (by omega));have HI2:=hid (((Bx3.new w1 (.int .i64 (op:Int)) (.int .i64 0) (.slice none 0 0) 89).keep (below_drewN (Below.refl _ _) m2)).ef hE2 (by omega));obtain⟨R0,R1,R2,K0,K1,K2⟩:=id HR2.out;obtain⟨I0,I1,I2,J0,J1,J2⟩:=id HI2.out;have hI':w1.heap.size<w3.heap.size:=HI2.out.lt;have hR2':w.heap.size<w3.heap.size:=(by omega);clear hr hE2 hB2))
      have HBX:=hid (HR2.out.off (bs:=[w1.heap.size]) ((Off.refl _ _).set (b:=w1.heap.size) (o:=1) (Or.inl (by simp)) (.int .i64 0)) (by simp;omega));obtain⟨s0,s1,s2,-,-,-⟩:=HBX.out.put (.int .i64 (op:Int)) (.int .i64 (0)) (.slice none 0 0);refine bodyPost_ret (v:=.tuple #[.agg #[.int .i64 (op:Int),.int .i64 (0),.slice none 0 0],.iface 81 (.agg #[.iface 447 (.pointer (some (adr (eIx c)))),.int .i64 0,.int .i64 (a:Int)])]) (by simp[results,Tryz.results155,go_sem,s0,s1,s2]) rfl ?_;exact rInsBad HB.out HR.out (HO2.out.set (Or.inr (by omega)) _) (Below.refl _ _)
     |.ok (x,q2)=>
      have HR:Hid (rdIns s p=.ok (⟨op,x,[]⟩,q2)):=by show _=_;rw[HC.out,bd_ok hv2]
      have HV2:=hid hv2;clear hv2;go_enter Tryz.func155,Tryz.ntmps155;go_wp2_with (first
       |(go_at_call 88;refine(HN.out _).mono ?_;rintro e w1 hr;obtain⟨v,rfl,rfl,hS1,hq1,hE1,hB1⟩:=hr.isOk HRV.out;have HS1:=hid hS1;have HB1:=hid hB1;have HO1:=hid (((Off.refl [E] w).alloc _).trans (Off.of_ef hE1 (by simp)));have HR1:=hid ((Bx3.new w _ _ _ _).ef hE1 (by omega));obtain⟨r0,r1,r2,k0,k1,k2⟩:=id HR1.out;have hw1:w.heap.size<w1.heap.size:=HR1.out.lt;have hEw1:E<w1.heap.size:=(by omega);have HBI:=hid ((Below.refl w1.heap.size w1).alloc (Nat.le_refl _) (Obj.cells #[.int .i64 (op:Int),.int .i64 0,.slice none 0 0] 89));clear hr hS1 hE1 hB1 HN)
       |(go_at_call 120;refine(kindOf_any op 2 _ hop (by have h:=(HB1.out.keep HBI.out).tab.row op 0 hop (by omega);rw[kk2]at h;exact h)).mono ?_;rintro e w2 ⟨rfl,rfl⟩)
       |(go_at_call 152;refine(bounds_any op (l:Int) (h2:Int) _ hop (by have h:=(HB1.out.keep HBI.out).tab.row op 1 hop (by omega);rw[HL.out]at h;exact h) (by have h:=(HB1.out.keep HBI.out).tab.row op 2 hop (by omega);rw[HH.out]at h;exact h)).mono ?_;rintro e w2 ⟨rfl,m2,rfl⟩)
       |(go_at_call 88;refine(HW.out _ (HS1.out.keep (below_drewN HBI.out m2)) (HB1.out.keep (below_drewN HBI.out m2))).mono ?_;rintro e w3 hr;obtain⟨v,rfl,rfl,hS3,hq3,hE2,hB2⟩:=hr.isOk HV2.out;have HS3:=hid hS3;have HO2:=hid ((HO1.out.trans (Off.of_below (below_drewN HBI.out m2))).trans (Off.of_ef hE2 (by simp)));have HR2:=hid ((HR1.out.keep (below_drewN HBI.out m2)).ef hE2 (by omega));have HI2:=hid (((Bx3.new w1 (.int .i64 (op:Int)) (.int .i64 0) (.slice none 0 0) 89).keep (below_drewN (Below.refl _ _) m2)).ef hE2 (by omega));obtain⟨R0,R1,R2,K0,K1,K2⟩:=id HR2.out;obtain⟨I0,I1,I2,J0,J1,J2⟩:=id HI2.out;have hI':w1.heap.size<w3.heap.size:=HI2.out.lt;have hR2':w.heap.size<w3.heap.size:=(by omega);clear hr hE2 hB2 hS3))
      have HBX:=hid (HR2.out.off (bs:=[w1.heap.size]) ((Off.refl _ _).set (b:=w1.heap.size) (o:=1) (Or.inl (by simp)) (.int .i64 (x:Int))) (by simp;omega));obtain⟨s0,s1,s2,-,-,-⟩:=HBX.out.put (.int .i64 (op:Int)) (.int .i64 ((x:Int))) (.slice none 0 0);refine bodyPost_ret (v:=.tuple #[.agg #[.int .i64 (op:Int),.int .i64 ((x:Int)),.slice none 0 0],.nilIface]) (by simp[results,Tryz.results155,go_sem,s0,s1,s2]) rfl ?_;exact rInsGood hE HB.out HR.out (HS3.out.off (bs:=[w1.heap.size]) ((Off.refl _ _).set (b:=w1.heap.size) (Or.inl (by simp)) _) (by simp;omega)) hq3 (HO2.out.set (Or.inr (by omega)) _) (RowS.nil _ _) (Below.refl _ _)
    ·have kk3:rowN op 0=3:=by omega
     have HC:=hid (rdIns_al hv kk3);clear hv;have HW:Hid (∀w',RS w' E s q->Ba W w' E adr->Calls Tryz.prog 189 #[.pointer (some ⟨E,0,none⟩)] w' λe w''=>ReadSt W E adr s (rdAltsN s q) (λw'' l v=>AltsO w'' w'.heap.size v l) zSl w' e w''):=λw' hS hB=>rdAltsN_any hs hB hS hq;match hv2:rdAltsN s q with
     |.error (c,a)=>
      have HR:Hid (rdIns s p=.error (c,a)):=by show _=_;rw[HC.out,bd_err hv2]
      have HV2:=hid hv2;clear hv2;go_enter Tryz.func155,Tryz.ntmps155;go_wp2_with (first
       |(go_at_call 88;refine(HN.out _).mono ?_;rintro e w1 hr;obtain⟨v,rfl,rfl,hS1,hq1,hE1,hB1⟩:=hr.isOk HRV.out;have HS1:=hid hS1;have HB1:=hid hB1;have HO1:=hid (((Off.refl [E] w).alloc _).trans (Off.of_ef hE1 (by simp)));have HR1:=hid ((Bx3.new w _ _ _ _).ef hE1 (by omega));obtain⟨r0,r1,r2,k0,k1,k2⟩:=id HR1.out;have hw1:w.heap.size<w1.heap.size:=HR1.out.lt;have hEw1:E<w1.heap.size:=(by omega);have HBI:=hid ((Below.refl w1.heap.size w1).alloc (Nat.le_refl _) (Obj.cells #[.int .i64 (op:Int),.int .i64 0,.slice none 0 0] 89));clear hr hS1 hE1 hB1 HN)
       |(go_at_call 120;refine(kindOf_any op 3 _ hop (by have h:=(HB1.out.keep HBI.out).tab.row op 0 hop (by omega);rw[kk3]at h;exact h)).mono ?_;rintro e w2 ⟨rfl,rfl⟩)
       |(go_at_call 189;refine(HW.out _ (HS1.out.keep HBI.out) (HB1.out.keep HBI.out)).mono ?_;rintro e w3 hr;obtain⟨v,rfl,rfl,hE2,hB2⟩:=hr.isErr HV2.out;have HO2:=hid ((HO1.out.trans (Off.of_below HBI.out)).trans (Off.of_ef hE2 (by simp)));have HR2:=hid ((HR1.out.keep HBI.out).ef hE2 (by omega));have HI2:=hid ((Bx3.new w1 (.int .i64 (op:Int)) (.int .i64 0) (.slice none 0 0) 89).ef hE2 (by omega));obtain⟨R0,R1,R2,K0,K1,K2⟩:=id HR2.out;obtain⟨I0,I1,I2,J0,J1,J2⟩:=id HI2.out;have hI':w1.heap.size<w3.heap.size:=HI2.out.lt;have hR2':w.heap.size<w3.heap.size:=(by omega);clear hr hE2 hB2))
      have HBX:=hid (HR2.out.off (bs:=[w1.heap.size]) ((Off.refl _ _).set (b:=w1.heap.size) (o:=2) (Or.inl (by simp)) (.slice none 0 0)) (by simp;omega));obtain⟨s0,s1,s2,-,-,-⟩:=HBX.out.put (.int .i64 (op:Int)) (.int .i64 (0)) (.slice none 0 0);refine bodyPost_ret (v:=.tuple #[.agg #[.int .i64 (op:Int),.int .i64 (0),.slice none 0 0],.iface 81 (.agg #[.iface 447 (.pointer (some (adr (eIx c)))),.int .i64 0,.int .i64 (a:Int)])]) (by simp[results,Tryz.results155,go_sem,s0,s1,s2]) rfl ?_;exact rInsBad HB.out HR.out (HO2.out.set (Or.inr (by omega)) _) (Below.refl _ _)
     |.ok (x,q2)=>
      have HR:Hid (rdIns s p=.ok (⟨op,0,x⟩,q2)):=by show _=_;rw[HC.out,bd_ok hv2]
      have HV2:=hid hv2;clear hv2;go_enter Tryz.func155,Tryz.ntmps155;go_wp2_with (first
       |(go_at_call 88;refine(HN.out _).mono ?_;rintro e w1 hr;obtain⟨v,rfl,rfl,hS1,hq1,hE1,hB1⟩:=hr.isOk HRV.out;have HS1:=hid hS1;have HB1:=hid hB1;have HO1:=hid (((Off.refl [E] w).alloc _).trans (Off.of_ef hE1 (by simp)));have HR1:=hid ((Bx3.new w _ _ _ _).ef hE1 (by omega));obtain⟨r0,r1,r2,k0,k1,k2⟩:=id HR1.out;have hw1:w.heap.size<w1.heap.size:=HR1.out.lt;have hEw1:E<w1.heap.size:=(by omega);have HBI:=hid ((Below.refl w1.heap.size w1).alloc (Nat.le_refl _) (Obj.cells #[.int .i64 (op:Int),.int .i64 0,.slice none 0 0] 89));clear hr hS1 hE1 hB1 HN)
       |(go_at_call 120;refine(kindOf_any op 3 _ hop (by have h:=(HB1.out.keep HBI.out).tab.row op 0 hop (by omega);rw[kk3]at h;exact h)).mono ?_;rintro e w2 ⟨rfl,rfl⟩)
       |(go_at_call 189;refine(HW.out _ (HS1.out.keep HBI.out) (HB1.out.keep HBI.out)).mono ?_;rintro e w3 hr;obtain⟨v,rfl,hA3,hS3,hq3,hE2,hB2⟩:=hr.isOk HV2.out;obtain⟨ap,ac,rfl⟩:=hA3.slice;have HA3:=hid hA3;have HS3:=hid hS3;have HO2:=hid ((HO1.out.trans (Off.of_below HBI.out)).trans (Off.of_ef hE2 (by simp)));have HR2:=hid ((HR1.out.keep HBI.out).ef hE2 (by omega));have HI2:=hid ((Bx3.new w1 (.int .i64 (op:Int)) (.int .i64 0) (.slice none 0 0) 89).ef hE2 (by omega));obtain⟨R0,R1,R2,K0,K1,K2⟩:=id HR2.out;obtain⟨I0,I1,I2,J0,J1,J2⟩:=id HI2.out;have hI':w1.heap.size<w3.heap.size:=HI2.out.lt;have hR2':w.heap.size<w3.heap.size:=(by omega);clear hr hE2 hB2 hS3 hA3))
      have HBX:=hid (HR2.out.off (bs:=[w1.heap.size]) ((Off.refl _ _).set (b:=w1.heap.size) (o:=2) (Or.inl (by simp)) (.slice ap x.length ac)) (by simp;omega));obtain⟨s0,s1,s2,-,-,-⟩:=HBX.out.put (.int .i64 (op:Int)) (.int .i64 (0)) (.slice ap x.length ac);refine bodyPost_ret (v:=.tuple #[.agg #[.int .i64 (op:Int),.int .i64 (0),.slice ap x.length ac],.nilIface]) (by simp[results,Tryz.results155,go_sem,s0,s1,s2]) rfl ?_;exact rInsGood hE HB.out HR.out (HS3.out.off (bs:=[w1.heap.size]) ((Off.refl _ _).set (b:=w1.heap.size) (Or.inl (by simp)) _) (by simp;omega)) hq3 (HO2.out.set (Or.inr (by omega)) _) ((HA3.out.off okAlt ((Off.refl _ _).set (bs:=[w1.heap.size]) (b:=w1.heap.size) (Or.inl (by simp)) _) (by simp)).low (by simp;omega)) (Below.refl _ _)
structure RCode (E:Nat) (s:ByteArray) (n:Nat) (T:Rd (List LIns)) (W2 wr:World) (got:InsL) (p:Nat) (vp:Option Addr) (vc:Nat):Prop where
 le:got.length<=n
 rs:RS wr E s p
 hp:p<=s.size
 row:CodeO wr W2.heap.size (.slice vp got.length vc) got
 rd:T=rdCode s (n-got.length) (got.map (·.1)) p
 small:got.length<=p
 off:Off [E] W2 wr
theorem RCode.next{E:Nat}{s:ByteArray}{n:Nat}{T:Rd (List LIns)}{W2 wr w3 X0 w6:World}{got:InsL}{p q:Nat}{vp:Option Addr}{vc:Nat}{ob:Obj}{x:LIns}{ap:Option Addr}{an ac:Nat}(hc:RCode E s n T W2 wr got p vp vc)(hlt:got.length<n)(hE:E<W2.heap.size)(h1:rdIns s p=.ok (x,q))
 (hA:AltsO w3 wr.heap.size (.slice ap an ac) x.alts) (hE3:EF E wr w3) (hX:Below w3.heap.size w3 X0) (hS:RS w3 E s q) (hg:(X0.alloc ob).grownBy w6 (Value.slice vp got.length vc).ownBlock) {g c:Nat} (hat:(Value.slice vp got.length vc).ownBlock=some g∨g=(X0.alloc ob).heap.size) (hlg:g<w6.heap.size) (hown:w6.ownsRow 0 89 3 (.slice (some ⟨g,0,none⟩) (got.length+1) c) (got.length+1) (got.flatMap insC++[.int .i64 x.op,.int .i64 x.a,.slice ap an ac])):
 RCode E s n T W2 w6 (got++[(x,.slice ap an ac)]) q (some ⟨g,0,none⟩) c:=by
 have hl:(got++[((x,.slice ap an ac):LIns×Value)]).length=got.length+1:=by simp
 have hO:Off [E] wr X0:=(Off.of_ef hE3 (by simp)).trans (Off.of_below hX);have hrow:=hc.row.off okIns hO (by simp;omega);have hb:Below X0.heap.size X0 (X0.alloc ob):=(Below.refl _ _).alloc (Nat.le_refl _) _;have hbX:Below w3.heap.size w3 (X0.alloc ob):=hX.trans (by have:=hX.size;exact(Below.refl _ _).alloc this _);have hk:=rdIns_ok h1;have hsm:=hc.small;refine⟨by omega,(hS.keep hX).of_block (stays_alloc_app hg (hS.keep hX).lt hrow hE),hk.2.1,?_,?_,by omega,?_⟩
 ·rw[hl];refine hc.row.push okIns hc.off.size (w1:=X0.alloc ob) (x:=(x,.slice ap an ac)) (λb hb'=>?_) (Nat.le_trans hO.size hb.size) ((hA.keep okAlt hbX).low (Nat.zero_le _)) (λb hb'=>?_) hA.nd hg rfl hat hlg hown
  ·have h1:=hc.row.rg b hb';have h2:=hO.size;rw[hb.block b (by omega)];exact hO.block b h1.2 (by simp;omega)
  ·have h1:=hA.rg b hb';have h2:=hX.size;have h3:=hb.size;omega
 ·rw[hc.rd,show n-got.length=(n-(got++[((x,.slice ap an ac):LIns×Value)]).length)+1 by omega,rdCode,bd_ok h1,List.map_append];rfl
 ·refine((hc.off.trans hO).alloc ob).grown hg λb e=>Or.inr ?_;exact(hrow.rg b (List.mem_append_left _ (mem_vB.2 e))).1
def rdCodeN(s:ByteArray)(p:Nat):Rd (List LIns):=bd (rdN s 0 65535 p) λc q=>rdCode s c [] q
def codeV(lo:Nat):World->List LIns->Value->Prop:=λw l v=>∃G:InsL,CodeO w lo v G∧G.map (·.1)=l
theorem rdCodeN_any{W w:World}{E:Nat}{adr:Nat->Addr}{s:ByteArray}{p:Nat}(hs:s.size<=100000)(hB:Ba W w E adr)(h:RS w E s p)(hp:p<=s.size):
 Calls Tryz.prog 124 #[.pointer (some ⟨E,0,none⟩)] w λe w'=>ReadSt W E adr s (rdCodeN s p) (codeV w.heap.size) zSl w e w':=by
 have hEw:E<w.heap.size:=h.lt;have HN:=hid (rdWithin_any (lo:=0) (hi:=65535) hs hB h hp (by omega) (by omega));have HB:=hid hB;obtain⟨ji,hji,hjj⟩:=Option.map_eq_some_iff.1 Tryz.insI;simp only[Prod.mk.injEq]at hjj;obtain⟨hj0,hj1,hj2⟩:=hjj;clear h hB;match hv:rdN s 0 65535 p with
 |.error (c,a)=>
  have HR:Hid (rdCodeN s p=.error (c,a)):=bd_err hv;have HRV:=hid hv;clear hv;go_enter Tryz.func124,Tryz.ntmps124;go_wp2_with (first
   |(go_at_call 88;refine HN.out.mono ?_;rintro e w1 hr;obtain⟨v,rfl,rfl,hE1,hB1⟩:=hr.isErr HRV.out;have HE1:=hid hE1;clear hr hE1 hB1))
  go_ret2
  exact ReadSt.bad HR.out rfl HE1.out HB.out
 |.ok (n,q)=>
  have hn:=(rdN_ok hv).2.1;have HRV:=hid hv;have HT:Hid (rdCodeN s p=rdCode s n [] q):=bd_ok hv;clear hv;go_enter Tryz.func124,Tryz.ntmps124;go_wp2_with (first
   |(go_at_call 88;refine HN.out.mono ?_;rintro e w1 hr;obtain⟨v,rfl,rfl,hS1,hq1,hE1,hB1⟩:=hr.isOk HRV.out;have HE1:=hid hE1;have HS1:=hid hS1;clear hr hE1 hB1 hS1 HN))
  have hw1:w.heap.size<=w1.heap.size:=HE1.out.size;have hE1:E<w1.heap.size:=HS1.out.lt;have HR0:Hid (RCode E s n (rdCode s n [] q) w1 w1 [] q none 0):=⟨Nat.zero_le _,HS1.out,hq1,RowS.nil _ _,rfl,Nat.zero_le _,Off.refl _ _⟩;generalize rdCode s n [] q=T at*;clear HS1;go_loopw [6,18] (λlv kv wr=>∃(got:InsL) (p:Nat) (vp:Option Addr) (vc:Nat),lv=.slice vp got.length vc∧kv=.int .i64 ((got.length:Nat):Int)∧Hid (RCode E s n T w1 wr got p vp vc)) (λ_ kv _=>n-(intOf kv).toNat)
  case atStart=>exact⟨[],q,none,0,rfl,rfl,HR0.out⟩
  case round=>
   clear HR0;obtain⟨got,p,vp,vc,rfl,rfl,HC⟩:=hrel;rename World=>wr
   have hle:=HC.out.le;have hpp:=HC.out.hp;have hsm:=HC.out.small;have HEW:Hid (EF E w wr):=HE1.out.trans (HC.out.off.ef (by simp));have HBW:=hid (HB.out.ef HEW.out);have hEr:E<wr.heap.size:=HC.out.rs.lt;by_cases hlt:got.length<n
   ·have HRD:Hid (T=bd (rdIns s p) λx q=>rdCode s (n-got.length-1) (got.map (·.1)++[x]) q):=by
     show _=_;rw[HC.out.rd];conv=>lhs;rw[show n-got.length=(n-got.length-1)+1 by omega]
     rw[rdCode]
    have HN1:=hid (rdIns_any hs HBW.out HC.out.rs hpp);match hv1:rdIns s p with
    |.error (c,a)=>
     have HTE:Hid (T=.error (c,a)):=by show _=_;rw[HRD.out,bd_err hv1]
     have HV1:=hid hv1;clear hv1;go_wp2_with (first
      |(go_at_call 155;refine HN1.out.mono ?_;rintro e w3 hr;obtain⟨v,rfl,⟨za,zb,zp,zn,zc,rfl⟩,hE3,hB3⟩:=hr.isErr HV1.out;have HE3:=hid hE3;clear hr hE3 hB3 HN1))
     go_ret2
     exact ReadSt.bad (HT.out.trans HTE.out) rfl ((HEW.out.trans HE3.out).trans (EF.of_below ((Below.refl _ _).alloc (Nat.le_refl _) _))) HB.out
    |.ok (x,q1)=>
     have HV1:=hid hv1;clear hv1;go_wp2_with (first
      |(go_at_call 155;refine HN1.out.mono ?_;rintro e w3 hr;obtain⟨v,rfl,⟨ap,an,ac,rfl,hA3⟩,hS3,hq3,hE3,hB3⟩:=hr.isOk HV1.out;have HE3:=hid hE3;have HS3:=hid hS3;have HA3:=hid hA3;have HOX:=hid ((Off.of_ef (bs:=[E]) hE3 (by simp)).alloc (Obj.cells #[.int .i64 x.op,.int .i64 x.a,.slice ap an ac] 89));clear hr hE3 hB3 hS3 hA3 HN1)
      |(at_builtin;refine wpList_append_lies _ rfl (.tmp 28) (.tmp 30) 59 rfl 0 89 ji _ 3 40 Tryz.underlying59 hji hj0 hj1 hj2 rfl (by omega) (.slice vp got.length vc) got.length (got.flatMap insC) rfl ((HC.out.row.off okIns HOX.out (by simp;omega)).own.alloc _) ⟨w3.heap.size+1,0,none⟩ 1 1 [.int .i64 x.op,.int .i64 x.a,.slice ap an ac] rfl rfl (by simpa using World.news_of_block (heap_alloc_new (w3.alloc (Obj.cells #[.int .i64 x.op,.int .i64 x.a,.slice ap an ac] 89)) (Obj.cells #[.int .i64 x.op,.int .i64 x.a,.slice ap an ac] 89))) (by intro u hu;simp at hu;rcases hu with rfl|rfl|rfl<;>rfl) (by omega) (by unfold maxLen;omega) (by omega) (Nat.zero_le _) _ rfl ?_;intro g1 k1 w6 hown hgrow hat hlt1;have HNX:=hid (HC.out.next hlt hE1 HV1.out HA3.out HE3.out ((Below.refl _ _).alloc (Nat.le_refl _) _) HS3.out hgrow hat hlt1 hown);clear hown hgrow hat hlt1))
     exact⟨⟨_,q1,_,_,by rw[List.length_append];rfl,by simp,HNX.out⟩,by simp[intOf];omega⟩
   ·have HTE:Hid (T=.ok (got.map (·.1),p)):=by
     show _=_;rw[HC.out.rd,show n-got.length=0 by omega];rfl
    go_wp2;go_ret2
    exact ReadSt.good (HT.out.trans HTE.out) ⟨got,HC.out.row.low (by omega),rfl⟩ HC.out.rs hpp HEW.out HB.out
end Go.Proofs.YtcpcplaeaimmpaaGreatDoor
