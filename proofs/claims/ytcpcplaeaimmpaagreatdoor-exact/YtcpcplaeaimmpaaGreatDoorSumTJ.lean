import Derived.Test.YtcpcplaeaimmpaaGreatDoorRefDecJ
set_option maxRecDepth 100000
set_option maxHeartbeats 8000000
namespace Go.Proofs.YtcpcplaeaimmpaaGreatDoor
open Go.RowKit Go.Sort
theorem RS.pos{w:World}{E:Nat}{s:ByteArray}{p:Nat}(h:RS w E s p):(intOf ((w.cell? ⟨E,1,none⟩).getD (.int .i64 0))).toNat=p:=by rw[h.c1];simp[intOf]
structure MkSt (W:World) (E:Nat) (adr:Nat->Addr) (s:ByteArray) (r:Rd Unit) (w:World) (e:Ending) (w':World):Prop where
 ok:∀u q,r=.ok (u,q)->e=.returned .nilIface∧RS w' E s q
 err:∀c a,r=.error (c,a)->e=.returned (.iface 81 (.agg #[.iface 447 (.pointer (some (adr (eIx c)))),.int .i64 0,.int .i64 (a:Int)]))
 ef:EF E w w'
 ba:Ba W w' E adr
theorem rdMark_any{W w:World}{E:Nat}{adr:Nat->Addr}{s:ByteArray}(h4:4<=s.size)(hB:Ba W w E adr)(h:RS w E s 0):
 Calls Tryz.prog 54 #[.pointer (some ⟨E,0,none⟩)] w λe w'=>MkSt W E adr s (rdMark s 4 0) w e w':=by
 have HS:=hid h;have HB:=hid hB;clear h hB;go_enter Tryz.func54,Tryz.ntmps54;go_wp2;go_loopw [] (λwr=>∃k:Nat,k<=4∧Hid (rdMark s 4 0=rdMark s (4-k) k)∧Hid (RS wr E s k)∧Hid (EF E w wr)) (λwr=>4-(intOf ((wr.cell? ⟨E,1,none⟩).getD (.int .i64 0))).toNat)
 case atStart=>exact⟨0,Nat.zero_le _,rfl,HS.out,EF.refl _ _⟩
 case round=>
  obtain⟨k,hk,HM,HK,HE⟩:=hrel;rename World=>wr
  obtain⟨d0,d1,g1⟩:=id HK.out;have HBr:=hid (HB.out.ef HE.out);by_cases hlt:k<4
  ·have hk0:(0:Int)<=(k:Int):=by omega
   have hk1:(k:Int)<(s.size:Int):=by omega
   have hk4:(k:Int)<4:=by omega
   have HAT:Hid (∀w',RS w' E s k->RS (w'.setCell ⟨E,1,none⟩ (.int .i64 ((k:Int)+1))) E s (k+1)):=by
    intro w' h;have:=h.at (k+1);rwa[show(((k+1:Nat)):Int)=(k:Int)+1 by omega]at this
   have HMK:Hid (rdMark s (4-k) k=if s[k].toNat=(⟨#[84,65,82,78]⟩:ByteArray)[k].toNat then rdMark s (4-(k+1)) (k+1) else .error (8,k)):=mark_step s k hlt (by omega);have x8:=HBr.out.form;go_wp2;go_quiet (fail);generalize s[k].toNat=x at*;generalize (⟨#[84,65,82,78]⟩:ByteArray)[k].toNat=y at*;by_cases hxy:x=y
   ·subst hxy;have hb:((x:Int) !=(x:Int))=false:=by simp
    go_wp2;have HN:=hid (HAT.out _ (HK.out.keep (below_drewN (Below.refl _ _) nq)));refine⟨⟨k+1,by omega,?_,HN.out,(HE.out.trans (EF.of_below (below_drewN (Below.refl _ _) _))).set _⟩,?_⟩
    ·show _=_;rw[HM.out,HMK.out,if_pos rfl]
    ·rw[HN.out.pos,HK.out.pos];omega
   ·have hb:((x:Int) !=(y:Int))=true:=by simp;omega
    have HRE:Hid (rdMark s 4 0=.error (8,k)):=by show _=_;rw[HM.out,HMK.out,if_neg hxy]
    have HQ:=hid (below_drewN (Below.refl wr.heap.size wr) nq);have HKQ:=hid (HK.out.keep HQ.out);have HBQ:=hid (HBr.out.keep HQ.out);have HEQ:=hid (HE.out.trans (EF.of_below HQ.out));clear HQ HK HBr HE d0 d1 g1 x8;go_wp2;generalize wr.drewN nq=wq at*;obtain⟨d0,d1,g1⟩:=id HKQ.out;have x8:=HBQ.out.form;go_quiet ((go_at_call 24;refine Calls.quiet_of_same (fAt_any _ _ _ _)));go_wp2;go_ret;refine⟨(λu q h=>by rw[HRE.out]at h;cases h),(λc a h=>by rw[HRE.out]at h;cases h;rfl),?_,?_⟩
    ·exact HEQ.out.trans (EF.of_below (below_drewN (Below.refl _ _) _))
    ·exact HBQ.out.keep (below_drewN (Below.refl _ _) _)
  ·obtain rfl:k=4:=by omega
   have HRO:Hid (rdMark s 4 0=.ok ((),4)):=HM.out;go_wp2;go_ret;exact⟨(λu q h=>by rw[HRO.out]at h;cases h;exact⟨rfl,HK.out⟩),(λc a h=>by rw[HRO.out]at h;cases h),HE.out,HBr.out⟩
theorem rdObj_n(s:ByteArray):rdObj s=bd (rdMark s 4 0) λ_ p=>bd (rdName s p) λnm p=>bd (rdImpsN s p) λis p=>bd (rdGlobsN s is p) λgs p=>if p<s.size then .error (11,p) else .ok (⟨nm,is,gs⟩,p):=by
 rw[rdObj];match rdMark s 4 0 with
 |.error e=>rfl
 |.ok (u,p1)=>
  show bd (rdName s p1) _=bd (rdName s p1) _;match rdName s p1 with
  |.error e=>rfl
  |.ok (nm,p2)=>
   show bd (rdV s p2) _=bd (rdImpsN s p2) _;rw[rdImpsN];match rdV s p2 with
   |.error e=>rfl
   |.ok (n,p3)=>
    show bd (rdImps s n [] ⟨#[]⟩ p3) _=bd (rdImps s n [] ⟨#[]⟩ p3) _;match rdImps s n [] ⟨#[]⟩ p3 with
    |.error e=>rfl
    |.ok (is,p4)=>
     show bd (rdV s p4) _=bd (rdGlobsN s is p4) _;rw[rdGlobsN];match rdV s p4 with
     |.error e=>rfl
     |.ok (m,p5)=>rfl
structure ObjO (w:World) (lo:Nat) (v:Value) (x:LObj):Prop where
 own:∃(ip:Option Addr) (il ic:Nat) (gp:Option Addr) (gl gc mid:Nat) (G:GlobL),v=.agg #[.string x.name,.slice ip il ic,.slice gp gl gc]∧ImpsO w lo (.slice ip il ic) x.imps∧(∀b∈rowB (noB (α:=LImp)) (.slice ip il ic) x.imps,b<mid)∧lo<=mid∧GlobsO w mid (.slice gp gl gc) G∧G.map (·.1)=x.globs
theorem ObjO.off{w w':World}{lo:Nat}{v:Value}{x:LObj}(h:ObjO w lo v x){bs:List Nat}(ho:Off bs w w')(hn:∀b∈bs,b<lo∨w.heap.size<=b):ObjO w' lo v x:=by
 obtain⟨ip,il,ic,gp,gl,gc,mid,G,hv,hI,hm,hl,hG,he⟩:=h.own;refine⟨ip,il,ic,gp,gl,gc,mid,G,hv,hI.off okImp ho (λb hb=>(hn b hb).elim Or.inl λh=>Or.inr (Or.inl h)),hm,hl,hG.off okGlob ho (λb hb=>(hn b hb).elim (λh=>Or.inl (by omega)) λh=>Or.inr (Or.inl h)),he⟩
theorem ObjO.low{w:World}{lo lo':Nat}{v:Value}{x:LObj}(h:ObjO w lo v x)(hl:lo'<=lo):ObjO w lo' v x:=by
 obtain⟨ip,il,ic,gp,gl,gc,mid,G,hv,hI,hm,hl',hG,he⟩:=h.own;exact⟨ip,il,ic,gp,gl,gc,mid,G,hv,hI.low hl,hm,by omega,hG,he⟩
theorem ObjO.at{w:World}{lo n:Nat}{v:Value}{x:LObj}(h:ObjO w lo v x)(hf:ObjFine n x)(hn:n<=100000):ObjAt w v x:=by
 obtain⟨ip,il,ic,gp,gl,gc,mid,G,rfl,hI,hm,hl',hG,he⟩:=h.own;exact hf.at hn hI hG he
def objV(lo:Nat):World->LObj->Value->Prop:=λw x v=>ObjO w lo v x
theorem rdImpsN_ok{s:ByteArray}{p q:Nat}{l:List LImp}(h:rdImpsN s p=.ok (l,q)):p<q∧q<=s.size∧l.length<=s.size∧(∀x∈l,x.name.size<=16)∧Rising l:=by
 obtain⟨n,r,h1,h2⟩:=bd_ok_inv h;have k1:=rdV_ok h1;obtain⟨a,b,c,d,e⟩:=rdImps_ok _ _ _ _ _ _ h2 (by omega);simp only[List.length_nil,Nat.zero_add]at c;exact⟨by omega,b,by omega,d (λx hx=>by cases hx),e (RI.nil _)⟩
theorem rdGlobsN_ok{s:ByteArray}{imps:List LImp}{p q:Nat}{l:List LGlob}(h:rdGlobsN s imps p=.ok (l,q)):q<=s.size:=by
 obtain⟨n,r,h1,h2⟩:=bd_ok_inv h;have k1:=rdV_ok h1;exact(rdGlobs_ok _ _ _ _ _ _ h2 (by omega)).2.1
theorem rObjBad{W w wX wF:World}{E:Nat}{adr:Nat->Addr}{s:ByteArray}{c a:Nat}(hB:Ba W w E adr)(hr:rdObj s=.error (c,a))(hO:Off [E] w wX)(hF:Below (((wX.setCell ⟨w.heap.size,0,none⟩ (.string ⟨#[]⟩)).setCell ⟨w.heap.size,1,none⟩ (.slice none 0 0)).setCell ⟨w.heap.size,2,none⟩ (.slice none 0 0)).heap.size (((wX.setCell ⟨w.heap.size,0,none⟩ (.string ⟨#[]⟩)).setCell ⟨w.heap.size,1,none⟩ (.slice none 0 0)).setCell ⟨w.heap.size,2,none⟩ (.slice none 0 0)) wF):
 ReadSt W E adr s (rdObj s) (objV w.heap.size) (λv=>v=objZ) w (.returned (.tuple #[.agg #[.string ⟨#[]⟩,.slice none 0 0,.slice none 0 0],.iface 81 (.agg #[.iface 447 (.pointer (some (adr (eIx c)))),.int .i64 0,.int .i64 (a:Int)])])) wF:=by
 refine ReadSt.bad hr rfl ?_ hB;exact((((hO.set (Or.inr (Nat.le_refl _)) _).set (Or.inr (Nat.le_refl _)) _).set (Or.inr (Nat.le_refl _)) _).trans (Off.of_below hF)).ef (by simp)
theorem obj2(w:World):Below w.heap.size w ((w.alloc (Obj.cells #[.string ⟨#[]⟩,.slice none 0 0,.slice none 0 0] 25)).alloc (Obj.cells #[.string ⟨#[]⟩,.slice none 0 0,.slice none 0 0] 25))∧
 Bx3 ((w.alloc (Obj.cells #[.string ⟨#[]⟩,.slice none 0 0,.slice none 0 0] 25)).alloc (Obj.cells #[.string ⟨#[]⟩,.slice none 0 0,.slice none 0 0] 25)) w.heap.size (.string ⟨#[]⟩) (.slice none 0 0) (.slice none 0 0)∧
 Bx3 ((w.alloc (Obj.cells #[.string ⟨#[]⟩,.slice none 0 0,.slice none 0 0] 25)).alloc (Obj.cells #[.string ⟨#[]⟩,.slice none 0 0,.slice none 0 0] 25)) (w.heap.size+1) (.string ⟨#[]⟩) (.slice none 0 0) (.slice none 0 0):=by
 refine⟨((Below.refl _ _).alloc (Nat.le_refl _) _).alloc (by simp) _,(Bx3.new w _ _ _ _).keep ((Below.refl _ _).alloc (Nat.le_refl _) _),?_⟩;have h:=Bx3.new (w.alloc (Obj.cells #[.string ⟨#[]⟩,.slice none 0 0,.slice none 0 0] 25)) (.string ⟨#[]⟩) (.slice none 0 0) (.slice none 0 0) 25;rw[show(w.alloc (Obj.cells #[.string ⟨#[]⟩,.slice none 0 0,.slice none 0 0] 25)).heap.size=w.heap.size+1 by simp]at h;exact h
theorem rdObj_any{W w:World}{E:Nat}{adr:Nat->Addr}{s:ByteArray}(h4:4<=s.size)(hs:s.size<=100000)(hB:Ba W w E adr)(h:RS w E s 0):
 Calls Tryz.prog 29 #[.pointer (some ⟨E,0,none⟩)] w λe w'=>ReadSt W E adr s (rdObj s) (objV w.heap.size) (λv=>v=objZ) w e w':=by
 have hE:E<w.heap.size:=h.lt;have HB:=hid hB;obtain⟨hbl,hr0,ho0⟩:=obj2 w;have HX1:=hid (rdMark_any h4 (hB.keep hbl) (h.keep hbl));have HR0:=hid hr0;have HO0:=hid ho0;have HF0:=hid (Off.of_below (bs:=[E]) hbl);have HN0:=hid (rdObj_n s);clear h hB hbl hr0 ho0;match hv1:rdMark s 4 0 with
 |.error (c,a)=>
  have HRE:Hid (rdObj s=.error (c,a)):=by show _=_;rw[HN0.out,bd_err hv1]
  have HV1:=hid hv1;clear hv1;go_enter Tryz.func29,Tryz.ntmps29;go_wp2_with (first
   |(go_at_call 54;refine HX1.out.mono ?_;rintro e w1 hr;obtain rfl:=hr.err _ _ HV1.out;have hE1:=hr.ef;have HR1:=hid (HR0.out.ef hE1 (by omega));have HO1:=hid (HO0.out.ef hE1 (by omega));have HF1:=hid (HF0.out.trans (Off.of_ef hE1 (by simp)));obtain⟨r0,r1,r2,k0,k1,k2⟩:=id HR1.out;obtain⟨o0,o1,o2,l0,l1,l2⟩:=id HO1.out;have hw1:w.heap.size<w1.heap.size:=HR1.out.lt;have hwo1:w.heap.size+1<w1.heap.size:=HO1.out.lt;clear hr hE1 HX1))
  obtain⟨s0,s1,s2,-,-,-⟩:=HR1.out.put (.string ⟨#[]⟩) (.slice none 0 0) (.slice none 0 0);refine bodyPost_ret (v:=.tuple #[.agg #[.string ⟨#[]⟩,.slice none 0 0,.slice none 0 0],.iface 81 (.agg #[.iface 447 (.pointer (some (adr (eIx c)))),.int .i64 0,.int .i64 (a:Int)])]) (by simp[results,Tryz.results29,go_sem,s0,s1,s2]) rfl ?_;exact rObjBad HB.out HRE.out HF1.out (Below.refl _ _)
 |.ok (u,p1)=>
  have hp1:p1<=s.size:=by have:=rdMark_ok _ _ hv1;omega
  have HN1:Hid (rdObj s=bd (rdName s p1) λnm p=>bd (rdImpsN s p) λis p=>bd (rdGlobsN s is p) λgs p=>if p<s.size then .error (11,p) else .ok (⟨nm,is,gs⟩,p)):=by show _=_;rw[HN0.out,bd_ok hv1]
  have HV1:=hid hv1;clear hv1 HN0;match hv2:rdName s p1 with
  |.error (c,a)=>
   have HRE:Hid (rdObj s=.error (c,a)):=by show _=_;rw[HN1.out,bd_err hv2]
   have HV2:=hid hv2;clear hv2;go_enter Tryz.func29,Tryz.ntmps29;go_wp2_with (first
    |(go_at_call 54;refine HX1.out.mono ?_;rintro e w1 hr;obtain⟨rfl,hS1⟩:=hr.ok _ _ HV1.out;have hE1:=hr.ef;have hB1:=hr.ba;have HR1:=hid (HR0.out.ef hE1 (by omega));have HO1:=hid (HO0.out.ef hE1 (by omega));have HF1:=hid (HF0.out.trans (Off.of_ef hE1 (by simp)));have HX2:=hid (rdName_any hs hB1 hS1 hp1);clear hr hE1 hB1 hS1 HX1)
    |(go_at_call 55;refine HX2.out.mono ?_;rintro e w2 hr;obtain⟨v,rfl,rfl,hE2,hB2⟩:=hr.isErr HV2.out;have HR2:=hid (HR1.out.ef hE2 (by omega));have HO2:=hid (HO1.out.ef hE2 (by omega));have HF2:=hid (HF1.out.trans (Off.of_ef hE2 (by simp)));obtain⟨r0,r1,r2,k0,k1,k2⟩:=id HR2.out;obtain⟨o0,o1,o2,l0,l1,l2⟩:=id HO2.out;have hw2:w.heap.size<w2.heap.size:=HR2.out.lt;have hwo2:w.heap.size+1<w2.heap.size:=HO2.out.lt;clear hr hE2 hB2 HX2))
   obtain⟨s0,s1,s2,-,-,-⟩:=HR2.out.put (.string ⟨#[]⟩) (.slice none 0 0) (.slice none 0 0);refine bodyPost_ret (v:=.tuple #[.agg #[.string ⟨#[]⟩,.slice none 0 0,.slice none 0 0],.iface 81 (.agg #[.iface 447 (.pointer (some (adr (eIx c)))),.int .i64 0,.int .i64 (a:Int)])]) (by simp[results,Tryz.results29,go_sem,s0,s1,s2]) rfl ?_;exact rObjBad HB.out HRE.out HF2.out (Below.refl _ _)
  |.ok (nm,p2)=>
   have hp2:p2<=s.size:=(rdName_ok hv2).2.1;have hnm16:=(rdName_ok hv2).2.2.2.1;have HN2:Hid (rdObj s=bd (rdImpsN s p2) λis p=>bd (rdGlobsN s is p) λgs p=>if p<s.size then .error (11,p) else .ok (⟨nm,is,gs⟩,p)):=by show _=_;rw[HN1.out,bd_ok hv2]
   have HV2:=hid hv2;clear hv2 HN1;match hv3:rdImpsN s p2 with
   |.error (c,a)=>
    have HRE:Hid (rdObj s=.error (c,a)):=by show _=_;rw[HN2.out,bd_err hv3]
    have HV3:=hid hv3;clear hv3;go_enter Tryz.func29,Tryz.ntmps29;go_wp2_with (first
     |(go_at_call 54;refine HX1.out.mono ?_;rintro e w1 hr;obtain⟨rfl,hS1⟩:=hr.ok _ _ HV1.out;have hE1:=hr.ef;have hB1:=hr.ba;have HR1:=hid (HR0.out.ef hE1 (by omega));have HO1:=hid (HO0.out.ef hE1 (by omega));have HF1:=hid (HF0.out.trans (Off.of_ef hE1 (by simp)));have HX2:=hid (rdName_any hs hB1 hS1 hp1);clear hr hE1 hB1 hS1 HX1)
     |(go_at_call 55;refine HX2.out.mono ?_;rintro e w2 hr;obtain⟨v,rfl,rfl,hS2,hq2,hE2,hB2⟩:=hr.isOk HV2.out;have HR2:=hid (HR1.out.ef hE2 (by omega));have HO2:=hid (HO1.out.ef hE2 (by omega));have HF2:=hid (HF1.out.trans (Off.of_ef hE2 (by simp)));have hwo2:w.heap.size+1<w2.heap.size:=HO2.out.lt;have HX3:=hid (rdImpsN_any hs hB2 hS2 hp2);clear hr hE2 hB2 hS2 HX2)
     |(go_at_call 56;refine HX3.out.mono ?_;rintro e w3 hr;obtain⟨v,rfl,rfl,hE3,hB3⟩:=hr.isErr HV3.out;have HR3:=hid (HR2.out.ef hE3 (by omega));have HO3:=hid (HO2.out.ef hE3 (by omega));have HF3:=hid (HF2.out.trans (Off.of_ef hE3 (by simp)));obtain⟨r0,r1,r2,k0,k1,k2⟩:=id HR3.out;obtain⟨o0,o1,o2,l0,l1,l2⟩:=id HO3.out;have hw3:w.heap.size<w3.heap.size:=HR3.out.lt;have hwo3:w.heap.size+1<w3.heap.size:=HO3.out.lt;clear hr hE3 hB3 HX3))
    obtain⟨s0,s1,s2,-,-,-⟩:=HR3.out.put (.string ⟨#[]⟩) (.slice none 0 0) (.slice none 0 0);refine bodyPost_ret (v:=.tuple #[.agg #[.string ⟨#[]⟩,.slice none 0 0,.slice none 0 0],.iface 81 (.agg #[.iface 447 (.pointer (some (adr (eIx c)))),.int .i64 0,.int .i64 (a:Int)])]) (by simp[results,Tryz.results29,go_sem,s0,s1,s2]) rfl ?_;exact rObjBad HB.out HRE.out HF3.out (Below.refl _ _)
   |.ok (is,p3)=>
    have hp3:p3<=s.size:=(rdImpsN_ok hv3).2.1;have HIF:=hid (rdImpsN_ok hv3);have HN3:Hid (rdObj s=bd (rdGlobsN s is p3) λgs p=>if p<s.size then .error (11,p) else .ok (⟨nm,is,gs⟩,p)):=by show _=_;rw[HN2.out,bd_ok hv3]
    have HV3:=hid hv3;clear hv3 HN2;match hv4:rdGlobsN s is p3 with
    |.error (c,a)=>
     have HRE:Hid (rdObj s=.error (c,a)):=by show _=_;rw[HN3.out,bd_err hv4]
     have HV4:=hid hv4;clear hv4;go_enter Tryz.func29,Tryz.ntmps29;go_wp2_with (first
      |(go_at_call 54;refine HX1.out.mono ?_;rintro e w1 hr;obtain⟨rfl,hS1⟩:=hr.ok _ _ HV1.out;have hE1:=hr.ef;have hB1:=hr.ba;have HR1:=hid (HR0.out.ef hE1 (by omega));have HO1:=hid (HO0.out.ef hE1 (by omega));have HF1:=hid (HF0.out.trans (Off.of_ef hE1 (by simp)));have HX2:=hid (rdName_any hs hB1 hS1 hp1);clear hr hE1 hB1 hS1 HX1)
      |(go_at_call 55;refine HX2.out.mono ?_;rintro e w2 hr;obtain⟨v,rfl,rfl,hS2,hq2,hE2,hB2⟩:=hr.isOk HV2.out;have HR2:=hid (HR1.out.ef hE2 (by omega));have HO2:=hid (HO1.out.ef hE2 (by omega));have HF2:=hid (HF1.out.trans (Off.of_ef hE2 (by simp)));have hwo2:w.heap.size+1<w2.heap.size:=HO2.out.lt;have HX3:=hid (rdImpsN_any hs hB2 hS2 hp2);clear hr hE2 hB2 hS2 HX2)
      |(go_at_call 56;refine HX3.out.mono ?_;rintro e w3 hr;obtain⟨v,rfl,hI3,hS3,hq3,hE3,hB3⟩:=hr.isOk HV3.out;obtain⟨ip,ic,rfl⟩:=hI3.slice;have HI3:=hid hI3;have HR3:=hid (HR2.out.ef hE3 (by omega));have HO3:=hid (HO2.out.ef hE3 (by omega));have HF3:=hid (HF2.out.trans (Off.of_ef hE3 (by simp)));have hw23:w2.heap.size<=w3.heap.size:=hE3.size;have HX4:=hid (rdGlobsN_any hs hB3 hS3 hp3 (ImpsO.at hI3 (by have:=HIF.out.2.2.1;show _<_;omega) (λx hx=>by have:=HIF.out.2.2.2.1 x hx;unfold maxLen;omega)) (hI3.away (by omega)) HIF.out.2.2.2.2);clear hr hE3 hB3 hS3 hI3 HX3)
      |(go_at_call 57;refine HX4.out.mono ?_;rintro e w4 hr;obtain⟨v,rfl,rfl,hE4,hB4⟩:=hr.isErr HV4.out;have HR4:=hid (HR3.out.ef hE4 (by omega));have HO4:=hid (HO3.out.ef hE4 (by omega));have HF4:=hid (HF3.out.trans (Off.of_ef hE4 (by simp)));obtain⟨r0,r1,r2,k0,k1,k2⟩:=id HR4.out;obtain⟨o0,o1,o2,l0,l1,l2⟩:=id HO4.out;have hw4:w.heap.size<w4.heap.size:=HR4.out.lt;have hwo4:w.heap.size+1<w4.heap.size:=HO4.out.lt;clear hr hE4 hB4 HX4))
     obtain⟨s0,s1,s2,-,-,-⟩:=HR4.out.put (.string ⟨#[]⟩) (.slice none 0 0) (.slice none 0 0);refine bodyPost_ret (v:=.tuple #[.agg #[.string ⟨#[]⟩,.slice none 0 0,.slice none 0 0],.iface 81 (.agg #[.iface 447 (.pointer (some (adr (eIx c)))),.int .i64 0,.int .i64 (a:Int)])]) (by simp[results,Tryz.results29,go_sem,s0,s1,s2]) rfl ?_;exact rObjBad HB.out HRE.out HF4.out (Below.refl _ _)
    |.ok (gs,p4)=>
     have hp4:p4<=s.size:=rdGlobsN_ok hv4;have HN4:Hid (rdObj s=if p4<s.size then .error (11,p4) else .ok (⟨nm,is,gs⟩,p4)):=by show _=_;rw[HN3.out,bd_ok hv4]
     have HV4:=hid hv4;clear hv4 HN3;have HCL:=hid (λw=>Clone_any nm w (by omega));by_cases hlt:p4<s.size
     ·have HRE:Hid (rdObj s=.error (11,p4)):=by show _=_;rw[HN4.out,if_pos hlt]
      have hlt':(p4:Int)<(s.size:Int):=by omega
      go_enter Tryz.func29,Tryz.ntmps29;go_wp2_with (first
       |(go_at_call 54;refine HX1.out.mono ?_;rintro e w1 hr;obtain⟨rfl,hS1⟩:=hr.ok _ _ HV1.out;have hE1:=hr.ef;have hB1:=hr.ba;have HR1:=hid (HR0.out.ef hE1 (by omega));have HO1:=hid (HO0.out.ef hE1 (by omega));have HF1:=hid (HF0.out.trans (Off.of_ef hE1 (by simp)));have HX2:=hid (rdName_any hs hB1 hS1 hp1);clear hr hE1 hB1 hS1 HX1)
       |(go_at_call 55;refine HX2.out.mono ?_;rintro e w2 hr;obtain⟨v,rfl,rfl,hS2,hq2,hE2,hB2⟩:=hr.isOk HV2.out;have HR2:=hid (HR1.out.ef hE2 (by omega));have HO2:=hid (HO1.out.ef hE2 (by omega));have HF2:=hid (HF1.out.trans (Off.of_ef hE2 (by simp)));have hwo2:w.heap.size+1<w2.heap.size:=HO2.out.lt;have HX3:=hid (rdImpsN_any hs hB2 hS2 hp2);clear hr hE2 hB2 hS2 HX2)
       |(go_at_call 56;refine HX3.out.mono ?_;rintro e w3 hr;obtain⟨v,rfl,hI3,hS3,hq3,hE3,hB3⟩:=hr.isOk HV3.out;obtain⟨ip,ic,rfl⟩:=hI3.slice;have HI3:=hid hI3;have HR3:=hid (HR2.out.ef hE3 (by omega));have HO3:=hid (HO2.out.ef hE3 (by omega));have HF3:=hid (HF2.out.trans (Off.of_ef hE3 (by simp)));have hw23:w2.heap.size<=w3.heap.size:=hE3.size;have HX4:=hid (rdGlobsN_any hs hB3 hS3 hp3 (ImpsO.at hI3 (by have:=HIF.out.2.2.1;show _<_;omega) (λx hx=>by have:=HIF.out.2.2.2.1 x hx;unfold maxLen;omega)) (hI3.away (by omega)) HIF.out.2.2.2.2);clear hr hE3 hB3 hS3 hI3 HX3)
       |(go_at_call 57;refine HX4.out.mono ?_;rintro e w4 hr;obtain⟨v,rfl,⟨G,hG4,hGm⟩,hS4,hq4,hE4,hB4⟩:=hr.isOk HV4.out;obtain⟨gp,gc,rfl⟩:=hG4.slice;have HG4:=hid hG4;have HGM:=hid hGm;have HS4:=hid hS4;have HB4:=hid hB4;have HIL:Hid (∀b∈rowB (noB (α:=LImp)) (.slice ip is.length ic) is,b<w3.heap.size):=(λb hb=>(HI3.out.rg b hb).2);have HI4:=hid (HI3.out.off okImp (Off.of_ef (bs:=[E]) hE4 (by simp)) (by simp;omega));obtain⟨d0,d1,g1⟩:=id hS4;have HR4:=hid (HR3.out.ef hE4 (by omega));have HO4:=hid (HO3.out.ef hE4 (by omega));have HF4:=hid (HF3.out.trans (Off.of_ef hE4 (by simp)));obtain⟨r0,r1,r2,k0,k1,k2⟩:=id HR4.out;obtain⟨o0,o1,o2,l0,l1,l2⟩:=id HO4.out;have hw4:w.heap.size<w4.heap.size:=HR4.out.lt;have hwo4:w.heap.size+1<w4.heap.size:=HO4.out.lt;clear hr hE4 hB4 hS4 hG4 hGm HX4))
      go_quiet (fail);have HQ:=hid (below_drewN (Below.refl w4.heap.size w4) nq);have HRQ:=hid (HR4.out.keep HQ.out);have HOQ:=hid (HO4.out.keep HQ.out);have HSQ:=hid (HS4.out.keep HQ.out);have HBQ:=hid (HB4.out.keep HQ.out);have HFQ:=hid (HF4.out.trans (Off.of_below HQ.out));clear HQ HR4 HO4 HS4 HB4 HF4 HG4 HI4 d0 d1 g1 r0 r1 r2 k0 k1 k2 o0 o1 o2 l0 l1 l2 hw4 hwo4;go_wp2;generalize w4.drewN nq=wq at*;obtain⟨d0,d1,g1⟩:=id HSQ.out;obtain⟨r0,r1,r2,k0,k1,k2⟩:=id HRQ.out;obtain⟨o0,o1,o2,l0,l1,l2⟩:=id HOQ.out;have x11:=HBQ.out.more;have hwq:w.heap.size<wq.heap.size:=HRQ.out.lt;go_region_with ((go_at_call 24;refine(fAt_any _ _ _ _).mono ?_;rintro e w5 ⟨rfl,rfl⟩))
      all_goals go_wp2
      all_goals(obtain⟨s0,s1,s2,-,-,-⟩:=(HRQ.out.put (.string ⟨#[]⟩) (.slice none 0 0) (.slice none 0 0)).keep (Below.refl _ _).drew)
      all_goals refine bodyPost_ret (v:=.tuple #[.agg #[.string ⟨#[]⟩,.slice none 0 0,.slice none 0 0],.iface 81 (.agg #[.iface 447 (.pointer (some (adr 11))),.int .i64 0,.int .i64 (p4:Int)])]) (by simp[results,Tryz.results29,go_sem,Act.put,s0,s1,s2]) rfl ?_
      all_goals exact rObjBad (c:=11) HB.out HRE.out HFQ.out (Below.refl _ _).drew
     ·have HRO:Hid (rdObj s=.ok (⟨nm,is,gs⟩,p4)):=by show _=_;rw[HN4.out,if_neg hlt]
      have hlt':¬(p4:Int)<(s.size:Int):=by omega
      go_enter Tryz.func29,Tryz.ntmps29;go_wp2_with (first
       |(go_at_call 54;refine HX1.out.mono ?_;rintro e w1 hr;obtain⟨rfl,hS1⟩:=hr.ok _ _ HV1.out;have hE1:=hr.ef;have hB1:=hr.ba;have HR1:=hid (HR0.out.ef hE1 (by omega));have HO1:=hid (HO0.out.ef hE1 (by omega));have HF1:=hid (HF0.out.trans (Off.of_ef hE1 (by simp)));have HX2:=hid (rdName_any hs hB1 hS1 hp1);clear hr hE1 hB1 hS1 HX1)
       |(go_at_call 55;refine HX2.out.mono ?_;rintro e w2 hr;obtain⟨v,rfl,rfl,hS2,hq2,hE2,hB2⟩:=hr.isOk HV2.out;have HR2:=hid (HR1.out.ef hE2 (by omega));have HO2:=hid (HO1.out.ef hE2 (by omega));have HF2:=hid (HF1.out.trans (Off.of_ef hE2 (by simp)));have hwo2:w.heap.size+1<w2.heap.size:=HO2.out.lt;have HX3:=hid (rdImpsN_any hs hB2 hS2 hp2);clear hr hE2 hB2 hS2 HX2)
       |(go_at_call 56;refine HX3.out.mono ?_;rintro e w3 hr;obtain⟨v,rfl,hI3,hS3,hq3,hE3,hB3⟩:=hr.isOk HV3.out;obtain⟨ip,ic,rfl⟩:=hI3.slice;have HI3:=hid hI3;have HR3:=hid (HR2.out.ef hE3 (by omega));have HO3:=hid (HO2.out.ef hE3 (by omega));have HF3:=hid (HF2.out.trans (Off.of_ef hE3 (by simp)));have hw23:w2.heap.size<=w3.heap.size:=hE3.size;have HX4:=hid (rdGlobsN_any hs hB3 hS3 hp3 (ImpsO.at hI3 (by have:=HIF.out.2.2.1;show _<_;omega) (λx hx=>by have:=HIF.out.2.2.2.1 x hx;unfold maxLen;omega)) (hI3.away (by omega)) HIF.out.2.2.2.2);clear hr hE3 hB3 hS3 hI3 HX3)
       |(go_at_call 57;refine HX4.out.mono ?_;rintro e w4 hr;obtain⟨v,rfl,⟨G,hG4,hGm⟩,hS4,hq4,hE4,hB4⟩:=hr.isOk HV4.out;obtain⟨gp,gc,rfl⟩:=hG4.slice;have HG4:=hid hG4;have HGM:=hid hGm;have HS4:=hid hS4;have HB4:=hid hB4;have HIL:Hid (∀b∈rowB (noB (α:=LImp)) (.slice ip is.length ic) is,b<w3.heap.size):=(λb hb=>(HI3.out.rg b hb).2);have HI4:=hid (HI3.out.off okImp (Off.of_ef (bs:=[E]) hE4 (by simp)) (by simp;omega));obtain⟨d0,d1,g1⟩:=id hS4;have HR4:=hid (HR3.out.ef hE4 (by omega));have HO4:=hid (HO3.out.ef hE4 (by omega));have HF4:=hid (HF3.out.trans (Off.of_ef hE4 (by simp)));obtain⟨r0,r1,r2,k0,k1,k2⟩:=id HR4.out;obtain⟨o0,o1,o2,l0,l1,l2⟩:=id HO4.out;have hw4:w.heap.size<w4.heap.size:=HR4.out.lt;have hwo4:w.heap.size+1<w4.heap.size:=HO4.out.lt;clear hr hE4 hB4 hS4 hG4 hGm HX4))
      go_quiet (fail);go_wp2_with (first
       |(go_at_call 58;refine(HCL.out _).mono ?_;rintro e w5 ⟨rfl,hb5⟩;have hb45:=(below_drewN (Below.refl w4.heap.size w4) nq).trans (hb5.mono (by simp));have HR5:=hid (HR4.out.keep hb45);have HB5:=hid hb45;obtain⟨r0',r1',r2',k0',k1',k2'⟩:=id HR5.out;have hw5:w.heap.size<w5.heap.size:=HR5.out.lt;clear hb5 hb45))
      obtain⟨s0,s1,s2,-,-,-⟩:=HR5.out.put (.string nm) (.slice ip is.length ic) (.slice gp (List.length G) gc);refine bodyPost_ret (v:=.tuple #[.agg #[.string nm,.slice ip is.length ic,.slice gp (List.length G) gc],.nilIface]) (by simp[results,Tryz.results29,go_sem,s0,s1,s2]) rfl ?_;have ho:=puts3 w5 w.heap.size (.string nm) (.slice ip is.length ic) (.slice gp (List.length G) gc);refine ReadSt.good HRO.out ⟨ip,_,ic,gp,_,gc,w3.heap.size,G,rfl,((HI4.out.keep okImp HB5.out).off okImp ho (by simp;omega)).low (by omega),HIL.out,by omega,(HG4.out.keep okGlob HB5.out).off okGlob ho (by simp;omega),HGM.out⟩ ((HS4.out.keep HB5.out).off ho (by simp;omega)) hp4 ?_ HB.out;exact((((HF4.out.trans (Off.of_below HB5.out)).set (Or.inr (Nat.le_refl _)) _).set (Or.inr (Nat.le_refl _)) _).set (Or.inr (Nat.le_refl _)) _).ef (by simp)
def sumL(C:Nat):List UInt8:=[UInt8.ofNat (C % 256),UInt8.ofNat (C / 256 % 256),UInt8.ofNat (C / 65536 % 256),UInt8.ofNat (C / 16777216)]
def sumS(s:ByteArray):ByteArray:=⟨(sumL (crc s.data.toList)).toArray⟩
theorem sumTxt_any(s:ByteArray)(w:World)(hl:s.size<=100020):
 Calls Tryz.prog 25 #[.string s] w λe w'=>e=.returned (.string (sumS s))∧Below w.heap.size w w':=by
 have HS:=hid (λw=>sum_any s w (by omega));have hC:=crc_lt s.data.toList;have HSS:Hid (sumS s=⟨(sumL (crc s.data.toList)).toArray⟩):=rfl;generalize crc s.data.toList=C at*;have hcv:∀w:World,(convert 40 9 (.slice (some ⟨w.heap.size,0,none⟩) 4 4)).run Tryz.prog (w.alloc (.cells #[.int .u8 ((C:Int) % 256),.int .u8 ((C:Int) / 256 % 256),.int .u8 ((C:Int) / 65536 % 256),.int .u8 ((C:Int) / 16777216)] 5))=.ok (.string (sumS s)) (w.alloc (.cells #[.int .u8 ((C:Int) % 256),.int .u8 ((C:Int) / 256 % 256),.int .u8 ((C:Int) / 65536 % 256),.int .u8 ((C:Int) / 16777216)] 5)):=by
  intro w;have h:=run_convert_bytes_back (P:=Tryz.prog) (w.alloc (.cells #[.int .u8 ((C:Int) % 256),.int .u8 ((C:Int) / 256 % 256),.int .u8 ((C:Int) / 65536 % 256),.int .u8 ((C:Int) / 16777216)] 5)) 40 9 5 ⟨w.heap.size,0,none⟩ 4 (sumL C) Tryz.underlying40 Tryz.underlying5 Tryz.underlying9 (λj hj=>by
   have h1:C % 256 % 256=C % 256:=by omega
   have h2:C / 256 % 256 % 256=C / 256 % 256:=by omega
   have h3:C / 65536 % 256 % 256=C / 65536 % 256:=by omega
   have h4:C / 16777216 % 256=C / 16777216:=by omega
   simp only[sumL,List.length_cons,List.length_nil]at hj;rcases(show j=0∨j=1∨j=2∨j=3 by omega) with rfl|rfl|rfl|rfl;all_goals simp[sumL,Addr.add,h1,h2,h3,h4])
  rw[HSS.out];exact h
 go_enter Tryz.func25,Tryz.ntmps25;go_wp2_with (first
  |(go_at_call 43;refine(HS.out _).mono ?_;rintro e w1 ⟨rfl,hb1⟩;have HB1:=hid hb1;clear hb1))
 go_ret;exact⟨rfl,HB1.out.trans ((Below.refl _ _).alloc (Nat.le_refl _) _|>.mono HB1.out.size)⟩
theorem sum_iff{s:ByteArray}(h:4<=s.size):s.extract (s.size-4) s.size=sumS (bodyOf s)↔sumIs s:=by
 have hc:=crc_lt (bodyOf s).data.toList;unfold sumIs sumAt sumS;generalize crc (bodyOf s).data.toList=C at*;obtain⟨n,hn⟩:∃n,s.size=n+4:=⟨s.size-4,by omega⟩;rw[hn,Nat.add_sub_cancel];have hsz:s.data.size=n+4:=hn;have hex:(s.extract n (n+4)).data.toList=[s.data.toList.getD n 0,s.data.toList.getD (n+1) 0,s.data.toList.getD (n+2) 0,s.data.toList.getD (n+3) 0]:=by
  rw[ByteArray.data_extract,Array.toList_extract];have hl:s.data.toList.length=n+4:=by rw[Array.length_toList];exact hsz
  generalize s.data.toList=l at*;refine List.ext_getElem? λi=>?_;have hx:∀k,k<4->l[n+k]?=some (l.getD (n+k) 0):=λk hk=>by rw[List.getD,List.getElem?_eq_getElem (by omega)];rfl
  match i with
  |0=>simpa[List.extract]using hx 0 (by omega)
  |1=>simpa[List.extract]using hx 1 (by omega)
  |2=>simpa[List.extract]using hx 2 (by omega)
  |3=>simpa[List.extract]using hx 3 (by omega)
  |i+4=>simp[List.extract];omega
 constructor
 ·intro he k hk;have h2:(s.extract n (n+4)).data.toList=sumL C:=by rw[he]
  rw[hex]at h2;simp only[sumL,List.cons.injEq,and_true]at h2;obtain⟨a0,a1,a2,a3⟩:=h2;rcases(show k=0∨k=1∨k=2∨k=3 by omega) with rfl|rfl|rfl|rfl
  ·rw[Nat.add_zero,a0,UInt8.toNat_ofNat',Nat.pow_zero,Nat.div_one,Nat.mod_mod]
  ·rw[a1,UInt8.toNat_ofNat'];first|done|omega
  ·rw[a2,UInt8.toNat_ofNat'];first|done|omega
  ·rw[a3,UInt8.toNat_ofNat'];first|done|omega
 ·intro hk;have b0:=hk 0 (by omega);have b1:=hk 1 (by omega);have b2:=hk 2 (by omega);have b3:=hk 3 (by omega);have h2:(s.extract n (n+4)).data.toList=sumL C:=by
   rw[hex];have e:∀(x:UInt8) (m:Nat),x.toNat=m % 256->x=UInt8.ofNat m:=λx m h=>by
    apply UInt8.toNat.inj;rw[h,UInt8.toNat_ofNat']
   rw[Nat.add_zero]at b0;have c0:=e (s.data.toList.getD n 0) (C % 256) (by omega);have c1:=e (s.data.toList.getD (n+1) 0) (C / 256 % 256) (by omega);have c2:=e (s.data.toList.getD (n+2) 0) (C / 65536 % 256) (by omega);have c3:=e (s.data.toList.getD (n+3) 0) (C / 16777216) (by omega);rw[c0,c1,c2,c3];rfl
  apply ByteArray.ext;rw[<-Array.toList_inj,h2]
end Go.Proofs.YtcpcplaeaimmpaaGreatDoor
