import Derived.Test.YtglihimiidiacaaGreatDoorCi
import Derived.Test.YtglihimiidiacaaGreatDoorCk
import Derived.Test.YtglihimiidiacaaGreatDoorCb
import Derived.Test.YtglihimiidiacaaGreatDoorCa
import Derived.Laws.IdiomStrings
import Derived.Test.YtglihimiidiacaaGreatDoorCe
import Derived.Test.YtglihimiidiacaaGreatDoorCc
namespace Go.Proofs.YtglihimiidiacaaGreatDoor
open Go.RowKit Go.Sort
theorem RS.pos{w:World}{E:Nat}{s:ByteArray}{p:Nat}(h:RS w E s p):(intOf ((w.cell? ⟨E,1,none⟩).getD (.int .i64 0))).toNat=p:=by rw[h.c1];simp[intOf]
structure MkSt (W:World) (E:Nat) (adr:Nat→Addr) (s:ByteArray) (r:Rd Unit) (w:World) (e:Ending) (w':World):Prop where
 ok:∀u q,r=.ok (u,q)→e=.returned .nilIface∧RS w' E s q
 err:∀c a,r=.error (c,a)→e=.returned (.iface 123 (.agg #[.iface 443 (.pointer (some (adr (eIx c)))),.int .i64 0,.int .i64 (a:Int)]))
 ef:EF E w w'
 ba:Ba W w' E adr
set_option maxRecDepth 100000 in
set_option maxHeartbeats 8000000 in
theorem rdMark_any{W w:World}{E:Nat}{adr:Nat→Addr}{s:ByteArray}(h4:4≤s.size)(hB:Ba W w E adr)(h:RS w E s 0):
 Calls Tryz.prog 99 #[.pointer (some ⟨E,0,none⟩)] w fun e w'=>MkSt W E adr s (rdMark s 4 0) w e w':=by
 have HS:=hid h;have HB:=hid hB;clear h hB;go_enter Tryz.func99,Tryz.ntmps99;go_wp2;go_loopw [] (fun wr=>∃k:Nat,k≤4∧Hid (rdMark s 4 0=rdMark s (4-k) k)∧Hid (RS wr E s k)∧Hid (EF E w wr)) (fun wr=>4-(intOf ((wr.cell? ⟨E,1,none⟩).getD (.int .i64 0))).toNat)
 case atStart=>exact⟨0,Nat.zero_le _,rfl,HS.out,EF.refl _ _⟩
 case round=>
  obtain⟨k,hk,HM,HK,HE⟩:=hrel;rename World=>wr
  obtain⟨d0,d1,g1⟩:=id HK.out;have HBr:=hid (HB.out.ef HE.out);by_cases hlt:k<4
  ·have hk0:(0:Int)≤(k:Int):=by omega
   have hk1:(k:Int)<(s.size:Int):=by omega
   have hk4:(k:Int)<4:=by omega
   have HAT:Hid (∀w',RS w' E s k→RS (w'.setCell ⟨E,1,none⟩ (.int .i64 ((k:Int)+1))) E s (k+1)):=by
    intro w' h;have:=h.at (k+1);rwa[show(((k+1:Nat)):Int)=(k:Int)+1 by omega]at this
   have HMK:Hid (rdMark s (4-k) k=if s[k].toNat=(⟨#[84,65,82,78]⟩:ByteArray)[k].toNat then rdMark s (4-(k+1)) (k+1) else .error (8,k)):=mark_step s k hlt (by omega);have x8:=HBr.out.form;go_wp2;go_quiet (fail);generalize s[k].toNat=x at*;generalize (⟨#[84,65,82,78]⟩:ByteArray)[k].toNat=y at*;by_cases hxy:x=y
   ·subst hxy;have hb:((x:Int) !=(x:Int))=false:=by simp
    go_wp2;have HN:=hid (HAT.out _ (HK.out.keep (below_drewN (Below.refl _ _) nq)));refine⟨⟨k+1,by omega,?_,HN.out,(HE.out.trans (EF.of_below (below_drewN (Below.refl _ _) _))).set _⟩,?_⟩
    ·show _=_;rw[HM.out,HMK.out,if_pos rfl]
    ·rw[HN.out.pos,HK.out.pos];omega
   ·have hb:((x:Int) !=(y:Int))=true:=by simp;omega
    have HRE:Hid (rdMark s 4 0=.error (8,k)):=by show _=_;rw[HM.out,HMK.out,if_neg hxy]
    have HQ:=hid (below_drewN (Below.refl wr.heap.size wr) nq);have HKQ:=hid (HK.out.keep HQ.out);have HBQ:=hid (HBr.out.keep HQ.out);have HEQ:=hid (HE.out.trans (EF.of_below HQ.out));clear HQ HK HBr HE d0 d1 g1 x8;go_wp2;generalize wr.drewN nq=wq at*;obtain⟨d0,d1,g1⟩:=id HKQ.out;have x8:=HBQ.out.form;go_quiet ((go_at_call 38;refine Calls.quiet_of_same (fAt_any _ _ _ _)));go_wp2;go_ret;refine⟨(fun u q h=>by rw[HRE.out]at h;cases h),(fun c a h=>by rw[HRE.out]at h;cases h;rfl),?_,?_⟩
    ·exact HEQ.out.trans (EF.of_below (below_drewN (Below.refl _ _) _))
    ·exact HBQ.out.keep (below_drewN (Below.refl _ _) _)
  ·obtain rfl:k=4:=by omega
   have HRO:Hid (rdMark s 4 0=.ok ((),4)):=HM.out;go_wp2;go_ret;exact⟨(fun u q h=>by rw[HRO.out]at h;cases h;exact⟨rfl,HK.out⟩),(fun c a h=>by rw[HRO.out]at h;cases h),HE.out,HBr.out⟩
theorem rdObj_n(s:ByteArray):rdObj s=bd (rdMark s 4 0) fun _ p=>bd (rdName s p) fun nm p=>bd (rdImpsN s p) fun is p=>bd (rdGlobsN s is p) fun gs p=>if p<s.size then .error (11,p) else .ok (⟨nm,is,gs⟩,p):=by
 rw[rdObj];match rdMark s 4 0 with
 |.error e=>rfl
 |.ok (u,p1)=>
  show bd (rdName s p1) _=bd (rdName s p1) _;match rdName s p1 with
  |.error e=>rfl
  |.ok (nm,p2)=>
   show bd (rdV s p2) _=bd (rdImpsN s p2) _;rw[rdImpsN];match rdV s p2 with
   |.error e=>rfl
   |.ok (n,p3)=>
    show bd (rdImps s n [] ⟨#[]⟩ p3) _=bd (rdImps s n [] ⟨#[]⟩ p3) _;match rdImps s n [] ⟨#[]⟩ p3 with
    |.error e=>rfl
    |.ok (is,p4)=>
     show bd (rdV s p4) _=bd (rdGlobsN s is p4) _;rw[rdGlobsN];match rdV s p4 with
     |.error e=>rfl
     |.ok (m,p5)=>rfl
structure ObjO (w:World) (lo:Nat) (v:Value) (x:LObj):Prop where
 own:∃(ip:Option Addr) (il ic:Nat) (gp:Option Addr) (gl gc mid:Nat) (G:GlobL),v=.agg #[.string x.name,.slice ip il ic,.slice gp gl gc]∧ImpsO w lo (.slice ip il ic) x.imps∧(∀b∈rowB (noB (α:=LImp)) (.slice ip il ic) x.imps,b<mid)∧lo≤mid∧GlobsO w mid (.slice gp gl gc) G∧G.map (·.1)=x.globs
theorem ObjO.off{w w':World}{lo:Nat}{v:Value}{x:LObj}(h:ObjO w lo v x){bs:List Nat}(ho:Off bs w w')(hn:∀b∈bs,b<lo∨w.heap.size≤b):ObjO w' lo v x:=by
 obtain⟨ip,il,ic,gp,gl,gc,mid,G,hv,hI,hm,hl,hG,he⟩:=h.own;refine⟨ip,il,ic,gp,gl,gc,mid,G,hv,hI.off okImp ho (fun b hb=>(hn b hb).elim Or.inl fun h=>Or.inr (Or.inl h)),hm,hl,hG.off okGlob ho (fun b hb=>(hn b hb).elim (fun h=>Or.inl (by omega)) fun h=>Or.inr (Or.inl h)),he⟩
theorem ObjO.low{w:World}{lo lo':Nat}{v:Value}{x:LObj}(h:ObjO w lo v x)(hl:lo'≤lo):ObjO w lo' v x:=by
 obtain⟨ip,il,ic,gp,gl,gc,mid,G,hv,hI,hm,hl',hG,he⟩:=h.own;exact⟨ip,il,ic,gp,gl,gc,mid,G,hv,hI.low hl,hm,by omega,hG,he⟩
theorem ObjO.at{w:World}{lo n:Nat}{v:Value}{x:LObj}(h:ObjO w lo v x)(hf:ObjFine n x)(hn:n≤100000):ObjAt w v x:=by
 obtain⟨ip,il,ic,gp,gl,gc,mid,G,rfl,hI,hm,hl',hG,he⟩:=h.own;exact hf.at hn hI hG he
def objV(lo:Nat):World→LObj→Value→Prop:=fun w x v=>ObjO w lo v x
end Go.Proofs.YtglihimiidiacaaGreatDoor
namespace Go.Proofs.YtglihimiidiacaaGreatDoor
open Go.RowKit Go.Sort
theorem rdImpsN_ok{s:ByteArray}{p q:Nat}{l:List LImp}(h:rdImpsN s p=.ok (l,q)):p<q∧q≤s.size∧l.length≤s.size∧(∀x∈l,x.name.size≤16)∧Rising l:=by
 obtain⟨n,r,h1,h2⟩:=bd_ok_inv h;have k1:=rdV_ok h1;obtain⟨a,b,c,d,e⟩:=rdImps_ok _ _ _ _ _ _ h2 (by omega);simp only[List.length_nil,Nat.zero_add]at c;exact⟨by omega,b,by omega,d (fun x hx=>by cases hx),e (RI.nil _)⟩
theorem rdGlobsN_ok{s:ByteArray}{imps:List LImp}{p q:Nat}{l:List LGlob}(h:rdGlobsN s imps p=.ok (l,q)):q≤s.size:=by
 obtain⟨n,r,h1,h2⟩:=bd_ok_inv h;have k1:=rdV_ok h1;exact(rdGlobs_ok _ _ _ _ _ _ h2 (by omega)).2.1
theorem rObjBad{W w wX wF:World}{E:Nat}{adr:Nat→Addr}{s:ByteArray}{c a:Nat}(hB:Ba W w E adr)(hr:rdObj s=.error (c,a))(hO:Off [E] w wX)(hF:Below (((wX.setCell ⟨w.heap.size,0,none⟩ (.string ⟨#[]⟩)).setCell ⟨w.heap.size,1,none⟩ (.slice none 0 0)).setCell ⟨w.heap.size,2,none⟩ (.slice none 0 0)).heap.size (((wX.setCell ⟨w.heap.size,0,none⟩ (.string ⟨#[]⟩)).setCell ⟨w.heap.size,1,none⟩ (.slice none 0 0)).setCell ⟨w.heap.size,2,none⟩ (.slice none 0 0)) wF):
 ReadSt W E adr s (rdObj s) (objV w.heap.size) (fun v=>v=objZ) w (.returned (.tuple #[.agg #[.string ⟨#[]⟩,.slice none 0 0,.slice none 0 0],.iface 123 (.agg #[.iface 443 (.pointer (some (adr (eIx c)))),.int .i64 0,.int .i64 (a:Int)])])) wF:=by
 refine ReadSt.bad hr rfl ?_ hB;exact((((hO.set (Or.inr (Nat.le_refl _)) _).set (Or.inr (Nat.le_refl _)) _).set (Or.inr (Nat.le_refl _)) _).trans (Off.of_below hF)).ef (by simp)
theorem obj2(w:World):Below w.heap.size w ((w.alloc (Obj.cells #[.string ⟨#[]⟩,.slice none 0 0,.slice none 0 0] 41)).alloc (Obj.cells #[.string ⟨#[]⟩,.slice none 0 0,.slice none 0 0] 41))∧
 Bx3 ((w.alloc (Obj.cells #[.string ⟨#[]⟩,.slice none 0 0,.slice none 0 0] 41)).alloc (Obj.cells #[.string ⟨#[]⟩,.slice none 0 0,.slice none 0 0] 41)) w.heap.size (.string ⟨#[]⟩) (.slice none 0 0) (.slice none 0 0)∧
 Bx3 ((w.alloc (Obj.cells #[.string ⟨#[]⟩,.slice none 0 0,.slice none 0 0] 41)).alloc (Obj.cells #[.string ⟨#[]⟩,.slice none 0 0,.slice none 0 0] 41)) (w.heap.size+1) (.string ⟨#[]⟩) (.slice none 0 0) (.slice none 0 0):=by
 refine⟨((Below.refl _ _).alloc (Nat.le_refl _) _).alloc (by simp) _,(Bx3.new w _ _ _ _).keep ((Below.refl _ _).alloc (Nat.le_refl _) _),?_⟩;have h:=Bx3.new (w.alloc (Obj.cells #[.string ⟨#[]⟩,.slice none 0 0,.slice none 0 0] 41)) (.string ⟨#[]⟩) (.slice none 0 0) (.slice none 0 0) 41;rw[show(w.alloc (Obj.cells #[.string ⟨#[]⟩,.slice none 0 0,.slice none 0 0] 41)).heap.size=w.heap.size+1 by simp]at h;exact h
set_option maxRecDepth 100000 in
set_option maxHeartbeats 8000000 in
theorem rdObj_any{W w:World}{E:Nat}{adr:Nat→Addr}{s:ByteArray}(h4:4≤s.size)(hs:s.size≤100000)(hB:Ba W w E adr)(h:RS w E s 0):
 Calls Tryz.prog 53 #[.pointer (some ⟨E,0,none⟩)] w fun e w'=>ReadSt W E adr s (rdObj s) (objV w.heap.size) (fun v=>v=objZ) w e w':=by
 have hE:E<w.heap.size:=h.lt;have HB:=hid hB;obtain⟨hbl,hr0,ho0⟩:=obj2 w;have HX1:=hid (rdMark_any h4 (hB.keep hbl) (h.keep hbl));have HR0:=hid hr0;have HO0:=hid ho0;have HF0:=hid (Off.of_below (bs:=[E]) hbl);have HN0:=hid (rdObj_n s);clear h hB hbl hr0 ho0;match hv1:rdMark s 4 0 with
 |.error (c,a)=>
  have HRE:Hid (rdObj s=.error (c,a)):=by show _=_;rw[HN0.out,bd_err hv1]
  have HV1:=hid hv1;clear hv1;go_enter Tryz.func53,Tryz.ntmps53;go_wp2_with (first
   |(go_at_call 99;refine HX1.out.mono ?_;rintro e w1 hr;obtain rfl:=hr.err _ _ HV1.out;have hE1:=hr.ef;have HR1:=hid (HR0.out.ef hE1 (by omega));have HO1:=hid (HO0.out.ef hE1 (by omega));have HF1:=hid (HF0.out.trans (Off.of_ef hE1 (by simp)));obtain⟨r0,r1,r2,k0,k1,k2⟩:=id HR1.out;obtain⟨o0,o1,o2,l0,l1,l2⟩:=id HO1.out;have hw1:w.heap.size<w1.heap.size:=HR1.out.lt;have hwo1:w.heap.size+1<w1.heap.size:=HO1.out.lt;clear hr hE1 HX1))
  obtain⟨s0,s1,s2,-,-,-⟩:=HR1.out.put (.string ⟨#[]⟩) (.slice none 0 0) (.slice none 0 0);refine bodyPost_ret (v:=.tuple #[.agg #[.string ⟨#[]⟩,.slice none 0 0,.slice none 0 0],.iface 123 (.agg #[.iface 443 (.pointer (some (adr (eIx c)))),.int .i64 0,.int .i64 (a:Int)])]) (by simp[results,Tryz.results53,go_sem,s0,s1,s2]) rfl ?_;exact rObjBad HB.out HRE.out HF1.out (Below.refl _ _)
 |.ok (u,p1)=>
  have hp1:p1≤s.size:=by have:=rdMark_ok _ _ hv1;omega
  have HN1:Hid (rdObj s=bd (rdName s p1) fun nm p=>bd (rdImpsN s p) fun is p=>bd (rdGlobsN s is p) fun gs p=>if p<s.size then .error (11,p) else .ok (⟨nm,is,gs⟩,p)):=by show _=_;rw[HN0.out,bd_ok hv1]
  have HV1:=hid hv1;clear hv1 HN0;match hv2:rdName s p1 with
  |.error (c,a)=>
   have HRE:Hid (rdObj s=.error (c,a)):=by show _=_;rw[HN1.out,bd_err hv2]
   have HV2:=hid hv2;clear hv2;go_enter Tryz.func53,Tryz.ntmps53;go_wp2_with (first
    |(go_at_call 99;refine HX1.out.mono ?_;rintro e w1 hr;obtain⟨rfl,hS1⟩:=hr.ok _ _ HV1.out;have hE1:=hr.ef;have hB1:=hr.ba;have HR1:=hid (HR0.out.ef hE1 (by omega));have HO1:=hid (HO0.out.ef hE1 (by omega));have HF1:=hid (HF0.out.trans (Off.of_ef hE1 (by simp)));have HX2:=hid (rdName_any hs hB1 hS1 hp1);clear hr hE1 hB1 hS1 HX1)
    |(go_at_call 100;refine HX2.out.mono ?_;rintro e w2 hr;obtain⟨v,rfl,rfl,hE2,hB2⟩:=hr.isErr HV2.out;have HR2:=hid (HR1.out.ef hE2 (by omega));have HO2:=hid (HO1.out.ef hE2 (by omega));have HF2:=hid (HF1.out.trans (Off.of_ef hE2 (by simp)));obtain⟨r0,r1,r2,k0,k1,k2⟩:=id HR2.out;obtain⟨o0,o1,o2,l0,l1,l2⟩:=id HO2.out;have hw2:w.heap.size<w2.heap.size:=HR2.out.lt;have hwo2:w.heap.size+1<w2.heap.size:=HO2.out.lt;clear hr hE2 hB2 HX2))
   obtain⟨s0,s1,s2,-,-,-⟩:=HR2.out.put (.string ⟨#[]⟩) (.slice none 0 0) (.slice none 0 0);refine bodyPost_ret (v:=.tuple #[.agg #[.string ⟨#[]⟩,.slice none 0 0,.slice none 0 0],.iface 123 (.agg #[.iface 443 (.pointer (some (adr (eIx c)))),.int .i64 0,.int .i64 (a:Int)])]) (by simp[results,Tryz.results53,go_sem,s0,s1,s2]) rfl ?_;exact rObjBad HB.out HRE.out HF2.out (Below.refl _ _)
  |.ok (nm,p2)=>
   have hp2:p2≤s.size:=(rdName_ok hv2).2.1;have hnm16:=(rdName_ok hv2).2.2.2.1;have HN2:Hid (rdObj s=bd (rdImpsN s p2) fun is p=>bd (rdGlobsN s is p) fun gs p=>if p<s.size then .error (11,p) else .ok (⟨nm,is,gs⟩,p)):=by show _=_;rw[HN1.out,bd_ok hv2]
   have HV2:=hid hv2;clear hv2 HN1;match hv3:rdImpsN s p2 with
   |.error (c,a)=>
    have HRE:Hid (rdObj s=.error (c,a)):=by show _=_;rw[HN2.out,bd_err hv3]
    have HV3:=hid hv3;clear hv3;go_enter Tryz.func53,Tryz.ntmps53;go_wp2_with (first
     |(go_at_call 99;refine HX1.out.mono ?_;rintro e w1 hr;obtain⟨rfl,hS1⟩:=hr.ok _ _ HV1.out;have hE1:=hr.ef;have hB1:=hr.ba;have HR1:=hid (HR0.out.ef hE1 (by omega));have HO1:=hid (HO0.out.ef hE1 (by omega));have HF1:=hid (HF0.out.trans (Off.of_ef hE1 (by simp)));have HX2:=hid (rdName_any hs hB1 hS1 hp1);clear hr hE1 hB1 hS1 HX1)
     |(go_at_call 100;refine HX2.out.mono ?_;rintro e w2 hr;obtain⟨v,rfl,rfl,hS2,hq2,hE2,hB2⟩:=hr.isOk HV2.out;have HR2:=hid (HR1.out.ef hE2 (by omega));have HO2:=hid (HO1.out.ef hE2 (by omega));have HF2:=hid (HF1.out.trans (Off.of_ef hE2 (by simp)));have hwo2:w.heap.size+1<w2.heap.size:=HO2.out.lt;have HX3:=hid (rdImpsN_any hs hB2 hS2 hp2);clear hr hE2 hB2 hS2 HX2)
     |(go_at_call 101;refine HX3.out.mono ?_;rintro e w3 hr;obtain⟨v,rfl,rfl,hE3,hB3⟩:=hr.isErr HV3.out;have HR3:=hid (HR2.out.ef hE3 (by omega));have HO3:=hid (HO2.out.ef hE3 (by omega));have HF3:=hid (HF2.out.trans (Off.of_ef hE3 (by simp)));obtain⟨r0,r1,r2,k0,k1,k2⟩:=id HR3.out;obtain⟨o0,o1,o2,l0,l1,l2⟩:=id HO3.out;have hw3:w.heap.size<w3.heap.size:=HR3.out.lt;have hwo3:w.heap.size+1<w3.heap.size:=HO3.out.lt;clear hr hE3 hB3 HX3))
    obtain⟨s0,s1,s2,-,-,-⟩:=HR3.out.put (.string ⟨#[]⟩) (.slice none 0 0) (.slice none 0 0);refine bodyPost_ret (v:=.tuple #[.agg #[.string ⟨#[]⟩,.slice none 0 0,.slice none 0 0],.iface 123 (.agg #[.iface 443 (.pointer (some (adr (eIx c)))),.int .i64 0,.int .i64 (a:Int)])]) (by simp[results,Tryz.results53,go_sem,s0,s1,s2]) rfl ?_;exact rObjBad HB.out HRE.out HF3.out (Below.refl _ _)
   |.ok (is,p3)=>
    have hp3:p3≤s.size:=(rdImpsN_ok hv3).2.1;have HIF:=hid (rdImpsN_ok hv3);have HN3:Hid (rdObj s=bd (rdGlobsN s is p3) fun gs p=>if p<s.size then .error (11,p) else .ok (⟨nm,is,gs⟩,p)):=by show _=_;rw[HN2.out,bd_ok hv3]
    have HV3:=hid hv3;clear hv3 HN2;match hv4:rdGlobsN s is p3 with
    |.error (c,a)=>
     have HRE:Hid (rdObj s=.error (c,a)):=by show _=_;rw[HN3.out,bd_err hv4]
     have HV4:=hid hv4;clear hv4;go_enter Tryz.func53,Tryz.ntmps53;go_wp2_with (first
      |(go_at_call 99;refine HX1.out.mono ?_;rintro e w1 hr;obtain⟨rfl,hS1⟩:=hr.ok _ _ HV1.out;have hE1:=hr.ef;have hB1:=hr.ba;have HR1:=hid (HR0.out.ef hE1 (by omega));have HO1:=hid (HO0.out.ef hE1 (by omega));have HF1:=hid (HF0.out.trans (Off.of_ef hE1 (by simp)));have HX2:=hid (rdName_any hs hB1 hS1 hp1);clear hr hE1 hB1 hS1 HX1)
      |(go_at_call 100;refine HX2.out.mono ?_;rintro e w2 hr;obtain⟨v,rfl,rfl,hS2,hq2,hE2,hB2⟩:=hr.isOk HV2.out;have HR2:=hid (HR1.out.ef hE2 (by omega));have HO2:=hid (HO1.out.ef hE2 (by omega));have HF2:=hid (HF1.out.trans (Off.of_ef hE2 (by simp)));have hwo2:w.heap.size+1<w2.heap.size:=HO2.out.lt;have HX3:=hid (rdImpsN_any hs hB2 hS2 hp2);clear hr hE2 hB2 hS2 HX2)
      |(go_at_call 101;refine HX3.out.mono ?_;rintro e w3 hr;obtain⟨v,rfl,hI3,hS3,hq3,hE3,hB3⟩:=hr.isOk HV3.out;obtain⟨ip,ic,rfl⟩:=hI3.slice;have HI3:=hid hI3;have HR3:=hid (HR2.out.ef hE3 (by omega));have HO3:=hid (HO2.out.ef hE3 (by omega));have HF3:=hid (HF2.out.trans (Off.of_ef hE3 (by simp)));have hw23:w2.heap.size≤w3.heap.size:=hE3.size;have HX4:=hid (rdGlobsN_any hs hB3 hS3 hp3 (ImpsO.at hI3 (by have:=HIF.out.2.2.1;show _<_;omega) (fun x hx=>by have:=HIF.out.2.2.2.1 x hx;unfold maxLen;omega)) (hI3.away (by omega)) HIF.out.2.2.2.2);clear hr hE3 hB3 hS3 hI3 HX3)
      |(go_at_call 102;refine HX4.out.mono ?_;rintro e w4 hr;obtain⟨v,rfl,rfl,hE4,hB4⟩:=hr.isErr HV4.out;have HR4:=hid (HR3.out.ef hE4 (by omega));have HO4:=hid (HO3.out.ef hE4 (by omega));have HF4:=hid (HF3.out.trans (Off.of_ef hE4 (by simp)));obtain⟨r0,r1,r2,k0,k1,k2⟩:=id HR4.out;obtain⟨o0,o1,o2,l0,l1,l2⟩:=id HO4.out;have hw4:w.heap.size<w4.heap.size:=HR4.out.lt;have hwo4:w.heap.size+1<w4.heap.size:=HO4.out.lt;clear hr hE4 hB4 HX4))
     obtain⟨s0,s1,s2,-,-,-⟩:=HR4.out.put (.string ⟨#[]⟩) (.slice none 0 0) (.slice none 0 0);refine bodyPost_ret (v:=.tuple #[.agg #[.string ⟨#[]⟩,.slice none 0 0,.slice none 0 0],.iface 123 (.agg #[.iface 443 (.pointer (some (adr (eIx c)))),.int .i64 0,.int .i64 (a:Int)])]) (by simp[results,Tryz.results53,go_sem,s0,s1,s2]) rfl ?_;exact rObjBad HB.out HRE.out HF4.out (Below.refl _ _)
    |.ok (gs,p4)=>
     have hp4:p4≤s.size:=rdGlobsN_ok hv4;have HN4:Hid (rdObj s=if p4<s.size then .error (11,p4) else .ok (⟨nm,is,gs⟩,p4)):=by show _=_;rw[HN3.out,bd_ok hv4]
     have HV4:=hid hv4;clear hv4 HN3;have HCL:=hid (fun w=>Clone_any nm w (by omega));by_cases hlt:p4<s.size
     ·have HRE:Hid (rdObj s=.error (11,p4)):=by show _=_;rw[HN4.out,if_pos hlt]
      have hlt':(p4:Int)<(s.size:Int):=by omega
      go_enter Tryz.func53,Tryz.ntmps53;go_wp2_with (first
       |(go_at_call 99;refine HX1.out.mono ?_;rintro e w1 hr;obtain⟨rfl,hS1⟩:=hr.ok _ _ HV1.out;have hE1:=hr.ef;have hB1:=hr.ba;have HR1:=hid (HR0.out.ef hE1 (by omega));have HO1:=hid (HO0.out.ef hE1 (by omega));have HF1:=hid (HF0.out.trans (Off.of_ef hE1 (by simp)));have HX2:=hid (rdName_any hs hB1 hS1 hp1);clear hr hE1 hB1 hS1 HX1)
       |(go_at_call 100;refine HX2.out.mono ?_;rintro e w2 hr;obtain⟨v,rfl,rfl,hS2,hq2,hE2,hB2⟩:=hr.isOk HV2.out;have HR2:=hid (HR1.out.ef hE2 (by omega));have HO2:=hid (HO1.out.ef hE2 (by omega));have HF2:=hid (HF1.out.trans (Off.of_ef hE2 (by simp)));have hwo2:w.heap.size+1<w2.heap.size:=HO2.out.lt;have HX3:=hid (rdImpsN_any hs hB2 hS2 hp2);clear hr hE2 hB2 hS2 HX2)
       |(go_at_call 101;refine HX3.out.mono ?_;rintro e w3 hr;obtain⟨v,rfl,hI3,hS3,hq3,hE3,hB3⟩:=hr.isOk HV3.out;obtain⟨ip,ic,rfl⟩:=hI3.slice;have HI3:=hid hI3;have HR3:=hid (HR2.out.ef hE3 (by omega));have HO3:=hid (HO2.out.ef hE3 (by omega));have HF3:=hid (HF2.out.trans (Off.of_ef hE3 (by simp)));have hw23:w2.heap.size≤w3.heap.size:=hE3.size;have HX4:=hid (rdGlobsN_any hs hB3 hS3 hp3 (ImpsO.at hI3 (by have:=HIF.out.2.2.1;show _<_;omega) (fun x hx=>by have:=HIF.out.2.2.2.1 x hx;unfold maxLen;omega)) (hI3.away (by omega)) HIF.out.2.2.2.2);clear hr hE3 hB3 hS3 hI3 HX3)
       |(go_at_call 102;refine HX4.out.mono ?_;rintro e w4 hr;obtain⟨v,rfl,⟨G,hG4,hGm⟩,hS4,hq4,hE4,hB4⟩:=hr.isOk HV4.out;obtain⟨gp,gc,rfl⟩:=hG4.slice;have HG4:=hid hG4;have HGM:=hid hGm;have HS4:=hid hS4;have HB4:=hid hB4;have HIL:Hid (∀b∈rowB (noB (α:=LImp)) (.slice ip is.length ic) is,b<w3.heap.size):=(fun b hb=>(HI3.out.rg b hb).2);have HI4:=hid (HI3.out.off okImp (Off.of_ef (bs:=[E]) hE4 (by simp)) (by simp;omega));obtain⟨d0,d1,g1⟩:=id hS4;have HR4:=hid (HR3.out.ef hE4 (by omega));have HO4:=hid (HO3.out.ef hE4 (by omega));have HF4:=hid (HF3.out.trans (Off.of_ef hE4 (by simp)));obtain⟨r0,r1,r2,k0,k1,k2⟩:=id HR4.out;obtain⟨o0,o1,o2,l0,l1,l2⟩:=id HO4.out;have hw4:w.heap.size<w4.heap.size:=HR4.out.lt;have hwo4:w.heap.size+1<w4.heap.size:=HO4.out.lt;clear hr hE4 hB4 hS4 hG4 hGm HX4))
      go_quiet (fail);have HQ:=hid (below_drewN (Below.refl w4.heap.size w4) nq);have HRQ:=hid (HR4.out.keep HQ.out);have HOQ:=hid (HO4.out.keep HQ.out);have HSQ:=hid (HS4.out.keep HQ.out);have HBQ:=hid (HB4.out.keep HQ.out);have HFQ:=hid (HF4.out.trans (Off.of_below HQ.out));clear HQ HR4 HO4 HS4 HB4 HF4 HG4 HI4 d0 d1 g1 r0 r1 r2 k0 k1 k2 o0 o1 o2 l0 l1 l2 hw4 hwo4;go_wp2;generalize w4.drewN nq=wq at*;obtain⟨d0,d1,g1⟩:=id HSQ.out;obtain⟨r0,r1,r2,k0,k1,k2⟩:=id HRQ.out;obtain⟨o0,o1,o2,l0,l1,l2⟩:=id HOQ.out;have x11:=HBQ.out.more;have hwq:w.heap.size<wq.heap.size:=HRQ.out.lt;go_region_with ((go_at_call 38;refine(fAt_any _ _ _ _).mono ?_;rintro e w5 ⟨rfl,rfl⟩))
      all_goals go_wp2
      all_goals(obtain⟨s0,s1,s2,-,-,-⟩:=(HRQ.out.put (.string ⟨#[]⟩) (.slice none 0 0) (.slice none 0 0)).keep (Below.refl _ _).drew)
      all_goals refine bodyPost_ret (v:=.tuple #[.agg #[.string ⟨#[]⟩,.slice none 0 0,.slice none 0 0],.iface 123 (.agg #[.iface 443 (.pointer (some (adr 11))),.int .i64 0,.int .i64 (p4:Int)])]) (by simp[results,Tryz.results53,go_sem,Act.put,s0,s1,s2]) rfl ?_
      all_goals exact rObjBad (c:=11) HB.out HRE.out HFQ.out (Below.refl _ _).drew
     ·have HRO:Hid (rdObj s=.ok (⟨nm,is,gs⟩,p4)):=by show _=_;rw[HN4.out,if_neg hlt]
      have hlt':¬(p4:Int)<(s.size:Int):=by omega
      go_enter Tryz.func53,Tryz.ntmps53;go_wp2_with (first
       |(go_at_call 99;refine HX1.out.mono ?_;rintro e w1 hr;obtain⟨rfl,hS1⟩:=hr.ok _ _ HV1.out;have hE1:=hr.ef;have hB1:=hr.ba;have HR1:=hid (HR0.out.ef hE1 (by omega));have HO1:=hid (HO0.out.ef hE1 (by omega));have HF1:=hid (HF0.out.trans (Off.of_ef hE1 (by simp)));have HX2:=hid (rdName_any hs hB1 hS1 hp1);clear hr hE1 hB1 hS1 HX1)
       |(go_at_call 100;refine HX2.out.mono ?_;rintro e w2 hr;obtain⟨v,rfl,rfl,hS2,hq2,hE2,hB2⟩:=hr.isOk HV2.out;have HR2:=hid (HR1.out.ef hE2 (by omega));have HO2:=hid (HO1.out.ef hE2 (by omega));have HF2:=hid (HF1.out.trans (Off.of_ef hE2 (by simp)));have hwo2:w.heap.size+1<w2.heap.size:=HO2.out.lt;have HX3:=hid (rdImpsN_any hs hB2 hS2 hp2);clear hr hE2 hB2 hS2 HX2)
       |(go_at_call 101;refine HX3.out.mono ?_;rintro e w3 hr;obtain⟨v,rfl,hI3,hS3,hq3,hE3,hB3⟩:=hr.isOk HV3.out;obtain⟨ip,ic,rfl⟩:=hI3.slice;have HI3:=hid hI3;have HR3:=hid (HR2.out.ef hE3 (by omega));have HO3:=hid (HO2.out.ef hE3 (by omega));have HF3:=hid (HF2.out.trans (Off.of_ef hE3 (by simp)));have hw23:w2.heap.size≤w3.heap.size:=hE3.size;have HX4:=hid (rdGlobsN_any hs hB3 hS3 hp3 (ImpsO.at hI3 (by have:=HIF.out.2.2.1;show _<_;omega) (fun x hx=>by have:=HIF.out.2.2.2.1 x hx;unfold maxLen;omega)) (hI3.away (by omega)) HIF.out.2.2.2.2);clear hr hE3 hB3 hS3 hI3 HX3)
       |(go_at_call 102;refine HX4.out.mono ?_;rintro e w4 hr;obtain⟨v,rfl,⟨G,hG4,hGm⟩,hS4,hq4,hE4,hB4⟩:=hr.isOk HV4.out;obtain⟨gp,gc,rfl⟩:=hG4.slice;have HG4:=hid hG4;have HGM:=hid hGm;have HS4:=hid hS4;have HB4:=hid hB4;have HIL:Hid (∀b∈rowB (noB (α:=LImp)) (.slice ip is.length ic) is,b<w3.heap.size):=(fun b hb=>(HI3.out.rg b hb).2);have HI4:=hid (HI3.out.off okImp (Off.of_ef (bs:=[E]) hE4 (by simp)) (by simp;omega));obtain⟨d0,d1,g1⟩:=id hS4;have HR4:=hid (HR3.out.ef hE4 (by omega));have HO4:=hid (HO3.out.ef hE4 (by omega));have HF4:=hid (HF3.out.trans (Off.of_ef hE4 (by simp)));obtain⟨r0,r1,r2,k0,k1,k2⟩:=id HR4.out;obtain⟨o0,o1,o2,l0,l1,l2⟩:=id HO4.out;have hw4:w.heap.size<w4.heap.size:=HR4.out.lt;have hwo4:w.heap.size+1<w4.heap.size:=HO4.out.lt;clear hr hE4 hB4 hS4 hG4 hGm HX4))
      go_quiet (fail);go_wp2_with (first
       |(go_at_call 46;refine(HCL.out _).mono ?_;rintro e w5 ⟨rfl,hb5⟩;have hb45:=(below_drewN (Below.refl w4.heap.size w4) nq).trans (hb5.mono (by simp));have HR5:=hid (HR4.out.keep hb45);have HB5:=hid hb45;obtain⟨r0',r1',r2',k0',k1',k2'⟩:=id HR5.out;have hw5:w.heap.size<w5.heap.size:=HR5.out.lt;clear hb5 hb45))
      obtain⟨s0,s1,s2,-,-,-⟩:=HR5.out.put (.string nm) (.slice ip is.length ic) (.slice gp (List.length G) gc);refine bodyPost_ret (v:=.tuple #[.agg #[.string nm,.slice ip is.length ic,.slice gp (List.length G) gc],.nilIface]) (by simp[results,Tryz.results53,go_sem,s0,s1,s2]) rfl ?_;have ho:=puts3 w5 w.heap.size (.string nm) (.slice ip is.length ic) (.slice gp (List.length G) gc);refine ReadSt.good HRO.out ⟨ip,_,ic,gp,_,gc,w3.heap.size,G,rfl,((HI4.out.keep okImp HB5.out).off okImp ho (by simp;omega)).low (by omega),HIL.out,by omega,(HG4.out.keep okGlob HB5.out).off okGlob ho (by simp;omega),HGM.out⟩ ((HS4.out.keep HB5.out).off ho (by simp;omega)) hp4 ?_ HB.out;exact((((HF4.out.trans (Off.of_below HB5.out)).set (Or.inr (Nat.le_refl _)) _).set (Or.inr (Nat.le_refl _)) _).set (Or.inr (Nat.le_refl _)) _).ef (by simp)
end Go.Proofs.YtglihimiidiacaaGreatDoor
namespace Go.Proofs.YtglihimiidiacaaGreatDoor
open Go.RowKit Go.Sort
def sumL(C:Nat):List UInt8:=[UInt8.ofNat (C % 256),UInt8.ofNat (C / 256 % 256),UInt8.ofNat (C / 65536 % 256),UInt8.ofNat (C / 16777216)]
def sumS(s:ByteArray):ByteArray:=⟨(sumL (crc s.data.toList)).toArray⟩
set_option maxRecDepth 100000 in
set_option maxHeartbeats 8000000 in
theorem sumTxt_any(s:ByteArray)(w:World)(hl:s.size≤100020):
 Calls Tryz.prog 52 #[.string s] w fun e w'=>e=.returned (.string (sumS s))∧Below w.heap.size w w':=by
 have HS:=hid (fun w=>sum_any s w (by omega));have hC:=crc_lt s.data.toList;have HSS:Hid (sumS s=⟨(sumL (crc s.data.toList)).toArray⟩):=rfl;generalize crc s.data.toList=C at*;have hcv:∀w:World,(convert 62 9 (.slice (some ⟨w.heap.size,0,none⟩) 4 4)).run Tryz.prog (w.alloc (.cells #[.int .u8 ((C:Int) % 256),.int .u8 ((C:Int) / 256 % 256),.int .u8 ((C:Int) / 65536 % 256),.int .u8 ((C:Int) / 16777216)] 5))=.ok (.string (sumS s)) (w.alloc (.cells #[.int .u8 ((C:Int) % 256),.int .u8 ((C:Int) / 256 % 256),.int .u8 ((C:Int) / 65536 % 256),.int .u8 ((C:Int) / 16777216)] 5)):=by
  intro w;have h:=run_convert_bytes_back (P:=Tryz.prog) (w.alloc (.cells #[.int .u8 ((C:Int) % 256),.int .u8 ((C:Int) / 256 % 256),.int .u8 ((C:Int) / 65536 % 256),.int .u8 ((C:Int) / 16777216)] 5)) 62 9 5 ⟨w.heap.size,0,none⟩ 4 (sumL C) Tryz.underlying62 Tryz.underlying5 Tryz.underlying9 (fun j hj=>by
   have h1:C % 256 % 256=C % 256:=by omega
   have h2:C / 256 % 256 % 256=C / 256 % 256:=by omega
   have h3:C / 65536 % 256 % 256=C / 65536 % 256:=by omega
   have h4:C / 16777216 % 256=C / 16777216:=by omega
   simp only[sumL,List.length_cons,List.length_nil]at hj;rcases(show j=0∨j=1∨j=2∨j=3 by omega) with rfl|rfl|rfl|rfl;all_goals simp[sumL,Addr.add,h1,h2,h3,h4])
  rw[HSS.out];exact h
 go_enter Tryz.func52,Tryz.ntmps52;go_wp2_with (first
  |(go_at_call 98;refine(HS.out _).mono ?_;rintro e w1 ⟨rfl,hb1⟩;have HB1:=hid hb1;clear hb1))
 go_ret;exact⟨rfl,HB1.out.trans ((Below.refl _ _).alloc (Nat.le_refl _) _|>.mono HB1.out.size)⟩
theorem sum_iff{s:ByteArray}(h:4≤s.size):s.extract (s.size-4) s.size=sumS (bodyOf s)↔sumIs s:=by
 have hc:=crc_lt (bodyOf s).data.toList;unfold sumIs sumAt sumS;generalize crc (bodyOf s).data.toList=C at*;obtain⟨n,hn⟩:∃n,s.size=n+4:=⟨s.size-4,by omega⟩;rw[hn,Nat.add_sub_cancel];have hsz:s.data.size=n+4:=hn;have hex:(s.extract n (n+4)).data.toList=[s.data.toList.getD n 0,s.data.toList.getD (n+1) 0,s.data.toList.getD (n+2) 0,s.data.toList.getD (n+3) 0]:=by
  rw[ByteArray.data_extract,Array.toList_extract];have hl:s.data.toList.length=n+4:=by rw[Array.length_toList];exact hsz
  generalize s.data.toList=l at*;refine List.ext_getElem? fun i=>?_;have hx:∀k,k<4→l[n+k]?=some (l.getD (n+k) 0):=fun k hk=>by rw[List.getD,List.getElem?_eq_getElem (by omega)];rfl
  match i with
  |0=>simpa[List.extract]using hx 0 (by omega)
  |1=>simpa[List.extract]using hx 1 (by omega)
  |2=>simpa[List.extract]using hx 2 (by omega)
  |3=>simpa[List.extract]using hx 3 (by omega)
  |i+4=>simp[List.extract];omega
 constructor
 ·intro he k hk;have h2:(s.extract n (n+4)).data.toList=sumL C:=by rw[he]
  rw[hex]at h2;simp only[sumL,List.cons.injEq,and_true]at h2;obtain⟨a0,a1,a2,a3⟩:=h2;rcases(show k=0∨k=1∨k=2∨k=3 by omega) with rfl|rfl|rfl|rfl
  ·rw[Nat.add_zero,a0,UInt8.toNat_ofNat',Nat.pow_zero,Nat.div_one,Nat.mod_mod]
  ·rw[a1,UInt8.toNat_ofNat'];first|done|omega
  ·rw[a2,UInt8.toNat_ofNat'];first|done|omega
  ·rw[a3,UInt8.toNat_ofNat'];first|done|omega
 ·intro hk;have b0:=hk 0 (by omega);have b1:=hk 1 (by omega);have b2:=hk 2 (by omega);have b3:=hk 3 (by omega);have h2:(s.extract n (n+4)).data.toList=sumL C:=by
   rw[hex];have e:∀(x:UInt8) (m:Nat),x.toNat=m % 256→x=UInt8.ofNat m:=fun x m h=>by
    apply UInt8.toNat.inj;rw[h,UInt8.toNat_ofNat']
   rw[Nat.add_zero]at b0;have c0:=e (s.data.toList.getD n 0) (C % 256) (by omega);have c1:=e (s.data.toList.getD (n+1) 0) (C / 256 % 256) (by omega);have c2:=e (s.data.toList.getD (n+2) 0) (C / 65536 % 256) (by omega);have c3:=e (s.data.toList.getD (n+3) 0) (C / 16777216) (by omega);rw[c0,c1,c2,c3];rfl
  apply ByteArray.ext;rw[←Array.toList_inj,h2]
end Go.Proofs.YtglihimiidiacaaGreatDoor
namespace Go.Proofs.YtglihimiidiacaaGreatDoor
open Go.RowKit
set_option maxHeartbeats 1000000 in
theorem In_any(t:TypeId)(x:Value)(k n:Int)(w:World):
 Calls Tryz.prog 104 #[.iface t x,.int .i64 k,.int .i64 n] w fun e w'=>e=.returned (.iface 123 (.agg #[.iface t x,.int .i64 k,.int .i64 n]))∧Below w.heap.size w w':=by
 go_enter Tryz.func104,Tryz.ntmps104;go_wp2;go_ret;exact⟨rfl,Below.refl _ _⟩
set_option maxHeartbeats 1000000 in
theorem place_nil(w:World):Calls Tryz.prog 24 #[.nilIface] w fun e w'=>e=.returned (.agg #[.int .i64 0,.int .i64 0])∧Below w.heap.size w w':=by
 go_enter Tryz.func24,Tryz.ntmps24;go_wp2_with (first|(go_at_call 43;refine(as_nil _ _).mono ?_;rintro e w1 ⟨rfl,rfl⟩))
 refine bodyPost_ret (v:=.agg #[.int .i64 0,.int .i64 0]) (by simp[results,Tryz.results24,go_sem]) rfl ?_;exact⟨rfl,((Below.refl _ _).alloc (Nat.le_refl _) _).alloc (by simp) _⟩
structure Hit (w w':World) (tb:Nat) (k n:Int):Prop where
 c1:w'.cell? ⟨tb,1,none⟩=some (.int .i64 k)
 c2:w'.cell? ⟨tb,2,none⟩=some (.int .i64 n)
 old:∀b o,b<w.heap.size→b≠tb→w'.cell? ⟨b,o,none⟩=w.cell? ⟨b,o,none⟩∧w'.frozen? ⟨b,o,none⟩=w.frozen? ⟨b,o,none⟩
 below:∀B,B≤tb→B≤w.heap.size→Below B w w'
theorem as_found(x:Value)(k n:Int)(tb:Nat)(o0 o1 o2:Value)(w:World)(hg:w.cell? ⟨19,0,none⟩=some (.iface 255 (.agg #[.pointer (some ⟨27,70,none⟩)])))
 (t0:w.cell? ⟨tb,0,none⟩=some o0) (t1:w.cell? ⟨tb,1,none⟩=some o1) (t2:w.cell? ⟨tb,2,none⟩=some o2) (f0:w.frozen? ⟨tb,0,none⟩=false) (f1:w.frozen? ⟨tb,1,none⟩=false) (f2:w.frozen? ⟨tb,2,none⟩=false) (ox:x.oneCell'=true):
 Calls Tryz.prog 43 #[.iface 123 (.agg #[x,.int .i64 k,.int .i64 n]),.iface 125 (.pointer (some ⟨tb,0,none⟩))] w fun ev w'=>ev=.returned (.bool true)∧Hit w w' tb k n:=by
 refine(as_hit x k n tb o0 o1 o2 w hg t0 t1 t2 f0 f1 f2 ox).mono ?_;rintro e w' ⟨rfl,rfl⟩;refine⟨rfl,?_⟩;have hb3:Below w.heap.size w (asW w ⟨tb,0,none⟩):=(((Below.refl _ _).alloc (Nat.le_refl _) _).alloc (by simp) _).alloc (by simp;omega) _;have hb4:Below w.heap.size w ((asW w ⟨tb,0,none⟩).alloc (.cells #[x,.int .i64 k,.int .i64 n] 123)):=hb3.alloc hb3.size _;generalize (asW w ⟨tb,0,none⟩).alloc (.cells #[x,.int .i64 k,.int .i64 n] 123)=W at*;have ne:∀{b o c:Nat},o≠c→(⟨b,o,none⟩:Addr)≠⟨b,c,none⟩:=fun h e=>h (congrArg Addr.off e);have nb:∀{b o c:Nat},b≠tb→(⟨tb,c,none⟩:Addr)≠⟨b,o,none⟩:=fun h e=>h (congrArg Addr.block e).symm;refine⟨?_,?_,fun b o hb hne=>⟨?_,?_⟩,fun B h1 h2=>?_⟩
 ·rw[World.cell?_setCell_other _ _ _ _ (ne (by decide))];exact World.cell?_setCell_same _ _ _ (u:=o1) (by rw[World.cell?_setCell_other _ _ _ _ (ne (by decide))];exact cell_keep hb4 t1)
 ·exact World.cell?_setCell_same _ _ _ (u:=o2) (by rw[World.cell?_setCell_other _ _ _ _ (ne (by decide)),World.cell?_setCell_other _ _ _ _ (ne (by decide))];exact cell_keep hb4 t2)
 ·rw[World.cell?_setCell_other _ _ _ _ (nb hne),World.cell?_setCell_other _ _ _ _ (nb hne),World.cell?_setCell_other _ _ _ _ (nb hne)];exact(bcell hb4).1 b o hb
 ·simp only[World.frozen?_setCell];exact(bcell hb4).2 b o hb
 ·exact(((hb4.mono h2).setCell (p:=⟨tb,0,none⟩) h1 _).setCell (p:=⟨tb,1,none⟩) h1 _).setCell (p:=⟨tb,2,none⟩) h1 _
set_option maxHeartbeats 1000000 in
theorem place_fault{w:World}{adr:Nat→Addr}(hS:SentAt w adr)(a:Addr)(k n:Int):Calls Tryz.prog 24 #[errF a k n] w fun e w'=>e=.returned (.agg #[.int .i64 k,.int .i64 n])∧Below w.heap.size w w':=by
 have HB0:Hid (∀o1 o2,Below w.heap.size w ((w.alloc o1).alloc o2)):=fun o1 o2=>((Below.refl _ _).alloc (Nat.le_refl _) _).alloc (by simp) _;have HP0:Hid (∀o2,P2 ((w.alloc (.cells #[.int .i64 0,.int .i64 0] 47)).alloc o2) w.heap.size):=fun o2=>⟨by simp,by simp,by simp,by simp⟩;have HE:Hid (w.cell? ⟨19,0,none⟩=some (.iface 255 (.agg #[.pointer (some ⟨27,70,none⟩)]))):=hS.et;clear hS;unfold errF;go_enter Tryz.func24,Tryz.ntmps24;go_wp2_with (first|(go_at_call 43;refine(as_found _ k n _ .nilIface (.int .i64 0) (.int .i64 0) _ (cell_keep (HB0.out _ _) HE.out) (by simp) (by simp) (by simp) (by simp) (by simp) (by simp) rfl).mono ?_;rintro e w1 ⟨rfl,hh⟩;have c1:=hh.c1;have c2:=hh.c2;have hp:P2 w1 w.heap.size:=⟨by rw[(hh.old _ 0 (by simp;omega) (by omega)).1];exact(HP0.out _).1,by rw[(hh.old _ 1 (by simp;omega) (by omega)).1];exact(HP0.out _).2.1,by rw[(hh.old _ 0 (by simp;omega) (by omega)).2];exact(HP0.out _).2.2.1,by rw[(hh.old _ 1 (by simp;omega) (by omega)).2];exact(HP0.out _).2.2.2⟩;obtain⟨p0,p1,p2,p3⟩:=id hp;have HP1:Hid (P2 w1 w.heap.size):=hp;have HB1:Hid (Below w.heap.size w w1):=(HB0.out _ _).trans (hh.below _ (by omega) (by simp;omega));clear hp hh))
 obtain⟨s0,s1⟩:=HP1.out.put (.int .i64 k) (.int .i64 n);refine bodyPost_ret (v:=.agg #[.int .i64 k,.int .i64 n]) (by simp[results,Tryz.results24,go_sem,s0,s1]) rfl ?_;exact⟨rfl,(HB1.out.setCell (by simp) _).setCell (by simp) _⟩
end Go.Proofs.YtglihimiidiacaaGreatDoor
namespace Go.Proofs.YtglihimiidiacaaGreatDoor
open Go.RowKit Go.Sort
def errS(adr:Nat→Addr):Option (Nat×Nat×Nat)→Value
 |some (e,k,i)=>errF (adr (e+1)) (k:Int) (i:Int)
 |none=>.nilIface
theorem gBad_le{code:List LIns}{d0 most:Int}{e i:Nat}(h:gBad code d0 most=some (e,i)):e≤2:=by
 unfold gBad at h;split at h
 ·simp at h;omega
 ·split at h
  ·simp at h;omega
  ·split at h
   ·simp at h;omega
   ·split at h
    ·simp at h;omega
    ·cases h
def Looks(code:List LIns)(d0 most:Int)(r:Option (Nat×Nat)):Prop:=
 (∃k,firstBad (badIdx most) code=some k∧r=some (0,k))∨
 (firstBad (badIdx most) code=none∧((∃k:Nat,wildJ code=.tuple #[.int .i64 (k:Int),.bool true]∧r=some (1,k))∨
  (∃k:Int,wildJ code=.tuple #[.int .i64 k,.bool false]∧Fine code∧((∃k,firstBad (badD (depOf code d0)) code=some k∧r=some (2,k))∨(firstBad (badD (depOf code d0)) code=none∧r=none)))))
theorem looks_of{code:List LIns}(d0 most:Int)(hg:codeG code=true):Looks code d0 most (gBad code d0 most):=by
 cases h1:firstBad (badIdx most) code with
 |some k=>exact Or.inl ⟨k,h1,gBad_idx h1⟩
 |none=>
  refine Or.inr ⟨h1,?_⟩;have hw:=wildJ_eq hg;by_cases h0:code.length=0
  ·rw[if_pos h0]at hw;exact Or.inl ⟨0,hw,gBad_empty h1 h0⟩
  ·rw[if_neg h0]at hw;cases h2:firstBad (badNext code.length) code with
   |some k=>
    rw[h2]at hw;exact Or.inl ⟨k,hw,gBad_jump h1 h0 h2⟩
   |none=>
    rw[h2]at hw;refine Or.inr ⟨_,hw,(fine_of hg h0 h2).fine,?_⟩;cases h3:firstBad (badD (depOf code d0)) code with
    |some k=>exact Or.inl ⟨k,rfl,by unfold gBad;rw[h1];simp only;rw[if_neg h0,h2];simp only;rw[h3]⟩
    |none=>exact Or.inr ⟨rfl,by unfold gBad;rw[h1];simp only;rw[if_neg h0,h2];simp only;rw[h3]⟩
set_option maxRecDepth 100000 in
set_option maxHeartbeats 4000000 in
theorem objSound_any(adr:Nat→Addr)(nm:ByteArray)(iv gv:Value)(imps:List LImp)(globs:List LGlob)(w:World)(hI:ImpsAt w iv imps)(hG:GlobsAt w gv globs)(hg:GoodGs globs)(hT:TabAt w)(hS:SentAt w adr):
 Calls Tryz.prog 54 #[.agg #[.string nm,iv,gv]] w fun e w'=>e=.returned (errS adr (sBad (imps.length+globs.length) globs 0))∧Below w.heap.size w w':=by
 obtain⟨ip,ic,rfl,hi1,-⟩:=hI.open;obtain⟨p,cap,rfl,hs1,hcell⟩:=hG.open;have HC:Hid (∀w',Below w.heap.size w w'→GlobsIn w' p globs):=hcell;have HG:Hid (GoodGs globs):=hg;have HT:Hid (TabAt w):=hT;have HS:Hid (SentAt w adr):=hS;clear hcell hG hg hI hT hS;go_enter Tryz.func54,Tryz.ntmps54;go_wp2;go_loopw [22] (fun i wr=>∃k:Nat,k≤globs.length∧i=.int .i64 k∧Hid (sBad ((imps.length:Int)+(globs.length:Int)) globs 0=sBad ((imps.length:Int)+(globs.length:Int)) (globs.drop k) k)∧Hid (Below w.heap.size w wr)) (fun i _=>globs.length-(intOf i).toNat)
 case atStart=>exact⟨0,Nat.zero_le _,rfl,rfl,(Below.refl _ _).alloc (Nat.le_refl _) _⟩
 case round=>
  obtain⟨k,hk,rfl,ha,hb⟩:=hrel;by_cases hlt:k<globs.length
  ·obtain⟨b,o,cp,cn,cc,rfl,c0,c1,c2,c3,hC,hsz⟩:=HC.out _ hb.out k hlt;obtain⟨g1,g2,g3⟩:=HG.out k hlt;have hL:=looks_of (globs[k].arity+1) ((imps.length:Int)+(globs.length:Int)) g1;have HSS:Hid (∀e i,gBad globs[k].code (globs[k].arity+1) ((imps.length:Int)+(globs.length:Int))=some (e,i)→sBad ((imps.length:Int)+(globs.length:Int)) globs 0=some (e,k,i)):=fun e i h=>by rw[ha.out];exact sBad_some hlt h
   have HSN:Hid (gBad globs[k].code (globs[k].arity+1) ((imps.length:Int)+(globs.length:Int))=none→sBad ((imps.length:Int)+(globs.length:Int)) globs 0=sBad ((imps.length:Int)+(globs.length:Int)) (globs.drop (k+1)) (k+1)):=fun h=>by rw[ha.out];exact sBad_next hlt h
   have HWI:Hid (∀w',Below wr.heap.size wr w'→Calls Tryz.prog 103 #[.slice cp cn cc,.int .i64 ((imps.length:Int)+(globs.length:Int))] w' fun e w''=>e=.returned (pairOf (firstBad (badIdx ((imps.length:Int)+(globs.length:Int))) globs[k].code))∧Below w'.heap.size w' w''):=fun w' hbw=>wildIndex_any _ _ _ w' (hC.keep hbw);have HWJ:Hid (∀w',Below wr.heap.size wr w'→Calls Tryz.prog 105 #[.slice cp cn cc] w' fun e w''=>e=.returned (wildJ globs[k].code)∧Below w'.heap.size w' w''):=fun w' hbw=>wildJump_any _ _ w' (hC.keep hbw);have HWD:Hid (Fine globs[k].code→∀w',Below wr.heap.size wr w'→Calls Tryz.prog 106 #[.slice cp cn cc,.int .i64 (globs[k].arity+1)] w' fun e w''=>e=.returned (pairOf (firstBad (badD (depOf globs[k].code (globs[k].arity+1))) globs[k].code))∧Below w'.heap.size w' w''):=fun hf w' hbw=>(wrongDepth_any _ _ _ w' (hC.keep hbw) (HT.out.keep (hb.out.trans (hbw.mono hb.out.size))) hf (by omega) (by omega)).mono fun _ _ ⟨⟨dep,hd,he⟩,h2⟩=>⟨by rw[depOf_eq hd];exact he,h2⟩;have hbs:=hb.out.size;rename World=>W2
   have HB0:Hid (∀ob,Below W2.heap.size W2 (W2.alloc ob)):=fun ob=>(Below.refl _ _).alloc (Nat.le_refl _) _;have HCL:Hid (∀w',Below W2.heap.size W2 w'→w'.cell? ⟨12,0,none⟩=some (.iface 443 (.pointer (some (adr 1))))∧w'.cell? ⟨13,0,none⟩=some (.iface 443 (.pointer (some (adr 2))))∧w'.cell? ⟨14,0,none⟩=some (.iface 443 (.pointer (some (adr 3))))):=fun w' hbw=>by
    have h:=HS.out.keep (hb.out.trans (hbw.mono hbs));exact⟨h.c 1 (by omega),h.c 2 (by omega),h.c 3 (by omega)⟩
   clear hC g1 ha;generalize gBad globs[k].code (globs[k].arity+1) ((imps.length:Int)+(globs.length:Int))=r at*;generalize globs[k].code=code at*;generalize globs[k].name=gn at*;generalize globs[k].arity=ar at*;generalize globs[k].exp=gex at*;rcases hL with⟨j,h1,rfl⟩|⟨h1,⟨j,h2,rfl⟩|⟨j,h2,hf,h3⟩⟩
   ·have HR:=hid (HSS.out _ _ rfl);rw[h1]at HWI;go_wp2_with (first|(go_at_call 103;refine(HWI.out _ (HB0.out _)).mono ?_;rintro e w1 ⟨rfl,hb1⟩;have hb2:Below W2.heap.size W2 w1:=(HB0.out _).trans (hb1.mono (by simp));have y3:=cell_keep hb1 (alloc_cell W2 _ _ 3 _ rfl);have y1:=cell_keep hb1 (alloc_cell W2 _ _ 1 _ rfl);obtain⟨s1,s2,s3⟩:=HCL.out _ hb2;simp only[pairOf])|(go_at_call 104;refine(In_any _ _ _ _ _).mono ?_;rintro e w7 ⟨rfl,hb7⟩))
    go_ret;exact⟨ret_val (by rw[HR.out];rfl),(hb.out.trans (hb2.mono hbs)).trans (hb7.mono (by have:=hb2.size;omega))⟩
   ·have HR:=hid (HSS.out _ _ rfl);rw[h1]at HWI;rw[h2]at HWJ;go_wp2_with (first|(go_at_call 103;refine(HWI.out _ (HB0.out _)).mono ?_;rintro e w1 ⟨rfl,hb1⟩;have hb2:Below W2.heap.size W2 w1:=(HB0.out _).trans (hb1.mono (by simp));have y3:=cell_keep hb1 (alloc_cell W2 _ _ 3 _ rfl);have y1:=cell_keep hb1 (alloc_cell W2 _ _ 1 _ rfl);obtain⟨s1,s2,s3⟩:=HCL.out _ hb2;simp only[pairOf])|(go_at_call 105;refine(HWJ.out _ hb2).mono ?_;rintro e w3 ⟨rfl,hb3⟩;have hb4:Below W2.heap.size W2 w3:=hb2.trans (hb3.mono hb2.size);have y3:=cell_keep hb3 y3;have y1:=cell_keep hb3 y1;obtain⟨s1,s2,s3⟩:=HCL.out _ hb4)|(go_at_call 104;refine(In_any _ _ _ _ _).mono ?_;rintro e w7 ⟨rfl,hb7⟩))
    go_ret;exact⟨ret_val (by rw[HR.out];rfl),(hb.out.trans (hb4.mono hbs)).trans (hb7.mono (by have:=hb4.size;omega))⟩
   ·have HWD2:=hid (HWD.out hf);rw[h1]at HWI;rw[h2]at HWJ;clear HWD hf h1 h2;rcases h3 with⟨j3,h3,rfl⟩|⟨h3,rfl⟩
    ·have HR:=hid (HSS.out _ _ rfl);rw[h3]at HWD2;go_wp2_with (first|(go_at_call 103;refine(HWI.out _ (HB0.out _)).mono ?_;rintro e w1 ⟨rfl,hb1⟩;have hb2:Below W2.heap.size W2 w1:=(HB0.out _).trans (hb1.mono (by simp));have y3:=cell_keep hb1 (alloc_cell W2 _ _ 3 _ rfl);have y1:=cell_keep hb1 (alloc_cell W2 _ _ 1 _ rfl);obtain⟨s1,s2,s3⟩:=HCL.out _ hb2;simp only[pairOf])|(go_at_call 105;refine(HWJ.out _ hb2).mono ?_;rintro e w3 ⟨rfl,hb3⟩;have hb4:Below W2.heap.size W2 w3:=hb2.trans (hb3.mono hb2.size);have y3:=cell_keep hb3 y3;have y1:=cell_keep hb3 y1;obtain⟨s1,s2,s3⟩:=HCL.out _ hb4)|(go_at_call 106;refine(HWD2.out _ hb4).mono ?_;rintro e w5 ⟨rfl,hb5⟩;have hb6:Below W2.heap.size W2 w5:=hb4.trans (hb5.mono hb4.size);obtain⟨s1,s2,s3⟩:=HCL.out _ hb6;simp only[pairOf])|(go_at_call 104;refine(In_any _ _ _ _ _).mono ?_;rintro e w7 ⟨rfl,hb7⟩))
     go_ret;exact⟨ret_val (by rw[HR.out];rfl),(hb.out.trans (hb6.mono hbs)).trans (hb7.mono (by have:=hb6.size;omega))⟩
    ·have HR:=hid (HSN.out rfl);rw[h3]at HWD2;go_wp2_with (first|(go_at_call 103;refine(HWI.out _ (HB0.out _)).mono ?_;rintro e w1 ⟨rfl,hb1⟩;have hb2:Below W2.heap.size W2 w1:=(HB0.out _).trans (hb1.mono (by simp));have y3:=cell_keep hb1 (alloc_cell W2 _ _ 3 _ rfl);have y1:=cell_keep hb1 (alloc_cell W2 _ _ 1 _ rfl);obtain⟨s1,s2,s3⟩:=HCL.out _ hb2;simp only[pairOf])|(go_at_call 105;refine(HWJ.out _ hb2).mono ?_;rintro e w3 ⟨rfl,hb3⟩;have hb4:Below W2.heap.size W2 w3:=hb2.trans (hb3.mono hb2.size);have y3:=cell_keep hb3 y3;have y1:=cell_keep hb3 y1;obtain⟨s1,s2,s3⟩:=HCL.out _ hb4)|(go_at_call 106;refine(HWD2.out _ hb4).mono ?_;rintro e w5 ⟨rfl,hb5⟩;have hb6:Below W2.heap.size W2 w5:=hb4.trans (hb5.mono hb4.size);obtain⟨s1,s2,s3⟩:=HCL.out _ hb6;simp only[pairOf]))
     exact⟨⟨k+1,by omega,by go_num,HR,hb.out.trans (hb6.mono hbs)⟩,by simp[intOf];omega⟩
  ·go_wp2;go_ret;exact⟨ret_val (by rw[ha.out,List.drop_of_length_le (by omega)];rfl),hb.out⟩
end Go.Proofs.YtglihimiidiacaaGreatDoor
