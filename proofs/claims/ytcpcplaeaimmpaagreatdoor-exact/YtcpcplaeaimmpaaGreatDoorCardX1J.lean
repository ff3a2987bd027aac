import Derived.Test.YtcpcplaeaimmpaaGreatDoorCk8J
import Derived.ProofKit
import Derived.Deep.DeepHandedRow
import Derived.Deep.DeepLaidRun
import Derived.Carry
set_option maxRecDepth 100000
set_option maxHeartbeats 16000000
namespace Go.Proofs.YtcpcplaeaimmpaaGreatDoor
open Go.RowKit Go.Sort
def eB(O:LObj):ByteArray×Int:=if valsG O then (if (hb O).length+4<=100000 then (fileOf O,0) else (⟨#[]⟩,1)) else (⟨#[]⟩,15)
theorem docE_eB(O:LObj):docE O=.tuple #[.string (eB O).1,.int .i64 (eB O).2]:=by
 unfold docE eB encV fileOf;cases valsG O with
 |false=>rfl
 |true=>
  show(if _ then _ else _)=_;by_cases h:(hb O).length+4<=100000
  ·rw[if_pos rfl,if_pos h,if_pos rfl,if_pos h]
  ·rw[if_pos rfl,if_neg h,if_pos rfl,if_neg h]
theorem eB_ok{O:LObj}(h:(eB O).2=0):valsG O=true∧(hb O).length+4<=100000∧(eB O).1=fileOf O:=by
 unfold eB at h ⊢;cases hV:valsG O with
 |false=>rw[hV,if_neg (by decide)]at h;exact absurd h (by decide)
 |true=>
  rw[hV]at h;by_cases hL:(hb O).length+4<=100000
  ·exact⟨rfl,hL,by rw[if_pos rfl,if_pos hL]⟩
  ·rw[if_pos rfl,if_neg hL]at h;exact absurd h (by decide)
theorem eB_no{O:LObj}(h:(eB O).2≠0):(eB O).1=⟨#[]⟩:=by
 unfold eB at h ⊢;cases hV:valsG O with
 |false=>rfl
 |true=>
  rw[hV]at h;by_cases hL:(hb O).length+4<=100000
  ·rw[if_pos rfl,if_pos hL]at h;exact absurd rfl h
  ·rw[if_pos rfl,if_neg hL]
noncomputable def fS(O:LObj):Int×Int×Int:=if valsG O then (match sBad (O.imps.length+O.globs.length) O.globs 0 with|none=>(0,0,0)|some (e,k,i)=>((12+e:Nat),(k:Int),(i:Int))) else (15,0,0)
theorem docS_fS(O:LObj):docS O=.tuple #[.int .i64 (fS O).1,.agg #[.int .i64 (fS O).2.1,.int .i64 (fS O).2.2]]:=by
 unfold docS fS;cases valsG O with
 |false=>rfl
 |true=>
  rw[if_pos rfl,if_pos rfl];match sBad (O.imps.length+O.globs.length) O.globs 0 with
  |none=>rfl
  |some (e,k,i)=>rfl
theorem fineD_of{s:ByteArray}{O:LObj}(h:docD s=.ok O):ObjFine 100000 O:=by
 obtain⟨h1,h2,h3,h4,h5⟩:=dec_enc h;have hz:=file_size O;have hbt:tb (bodyOf (fileOf O))=hb O:=by rw[tb_body,file_tb h1 h2 h3,hz,Nat.add_sub_cancel,List.take_left]
 have hsz:(bodyOf (fileOf O)).size=(hb O).length:=by rw[<-tb_len,hbt]
 have hr:=(rdObj_iff (s:=bodyOf (fileOf O)) (O:=O) (q:=(bodyOf (fileOf O)).size) (by omega)).2 ⟨⟨h1,ig_of h1 h2⟩,hbt,rfl⟩;have hf:=(rdObj_ok hr).1;exact⟨hf.nm,by have:=hf.im;omega,hf.imn,by have:=hf.gl;omega,hf.gf⟩
theorem docD_ne{s:ByteArray}{c k i:Int}(h:docD s=.error (c,k,i)):c≠0:=by
 by_cases h1:100000<s.size
 ·rw[docD_long h1]at h;cases h;decide
 by_cases h2:s.size<8
 ·rw[docD_short h1 h2]at h;cases h;decide
 by_cases h3:sumIs s
 ·match h4:rdObj (bodyOf s) with
  |.error (c',a)=>
   rw[docD_err h1 h2 h3 h4]at h;cases h;have:=(rdObj_err h4).ne;omega
  |.ok (O',q)=>
   match h5:sBad (O'.imps.length+O'.globs.length) O'.globs 0 with
   |some (e,k',i')=>rw[docD_bad h1 h2 h3 h4 h5]at h;cases h;omega
   |none=>rw[docD_ok h1 h2 h3 h4 h5]at h;cases h
 ·rw[docD_sum h1 h2 h3]at h;cases h;decide
theorem back{w:World}{adr:Nat->Addr}{O:LObj}{v:Value}(hG:Grd w adr)(hO:ObjAt w v O)(hR:RangeO O)(he:(eB O).2=0):Calls Tryz.prog 8 #[.string (eB O).1] w λe w'=>∃(nm:ByteArray) (ip:Option Addr) (il ic:Nat) (gp:Option Addr) (gl gc:Nat) (k i:Int),e=.returned (.tuple #[.agg #[.string nm,.slice ip il ic,.slice gp gl gc],.int .i64 (fS O).1,.agg #[.int .i64 k,.int .i64 i]])∧Hid (Below w.heap.size w w')∧Hid (∀W,Below w'.heap.size w' W->Calls Tryz.prog 9 #[v,.agg #[.string nm,.slice ip il ic,.slice gp gl gc]] W λe w''=>∃b,e=.returned (.bool b)∧Hid (Below W.heap.size W w'')∧((fS O).1=0->b=true)):=by
 obtain⟨hV,hL,hs⟩:=eB_ok he;rw[hs];refine(tarnDecode_any (fileOf O) adr w hG.t hG.s).mono ?_;rintro e w' ⟨hb,nm,ip,il,ic,gp,gl,gc,c,k,i,rfl,hD⟩;rw[enc_dec hV hR hL]at hD;have hf:fS O=match sBad (O.imps.length+O.globs.length) O.globs 0 with|none=>(0,0,0)|some (e,k,i)=>((12+e:Nat),(k:Int),(i:Int)):=by unfold fS;rw[if_pos hV]
 have hdo:=enc_dec hV hR hL;match h5:sBad (O.imps.length+O.globs.length) O.globs 0 with
 |some (e',k',i')=>
  rw[h5]at hD hf;obtain⟨rfl,rfl,rfl,hz⟩:=hD;refine⟨nm,ip,il,ic,gp,gl,gc,_,_,by rw[hf],hb,λW hW=>?_⟩;rw[hz];have hn:O.name≠⟨#[]⟩:=λe=>by
   simp only[valsG,Bool.and_eq_true]at hV;rw[e]at hV;exact absurd hV.1.1 (by decide)
  refine(ks_zero O v W ((hO.keep hb).keep hW) hn).mono ?_;rintro e w'' ⟨rfl,hb''⟩;refine⟨false,rfl,hb'',λh0=>?_⟩;rw[hf]at h0;simp only at h0;omega
 |none=>
  rw[h5]at hD hf hdo;obtain⟨rfl,rfl,rfl,hob⟩:=hD;refine⟨nm,ip,il,ic,gp,gl,gc,0,0,by rw[hf],hb,λW hW=>?_⟩;refine(ks_any O v _ W ((hO.keep hb).keep hW) ((hob.at (fineD_of hdo) (Nat.le_refl _)).keep hW)).mono ?_;rintro e w'' ⟨rfl,hb''⟩;exact⟨true,rfl,hb'',λ_=>rfl⟩
theorem fore{w:World}{adr:Nat->Addr}(file:ByteArray)(hG:Grd w adr):Calls Tryz.prog 8 #[.string file] w λe w'=>∃(nm:ByteArray) (ip:Option Addr) (il ic:Nat) (gp:Option Addr) (gl gc:Nat) (c k i:Int),e=.returned (.tuple #[.agg #[.string nm,.slice ip il ic,.slice gp gl gc],.int .i64 c,.agg #[.int .i64 k,.int .i64 i]])∧Hid (Below w.heap.size w w')∧Hid (c≠0∨(c=0∧(∀W,Below w'.heap.size w' W->Calls Tryz.prog 6 #[.agg #[.string nm,.slice ip il ic,.slice gp gl gc]] W λe w''=>e=.returned (.tuple #[.string file,.int .i64 0])∧Below W.heap.size W w'')∧∀W,Below w'.heap.size w' W->Calls Tryz.prog 7 #[.agg #[.string nm,.slice ip il ic,.slice gp gl gc]] W λe w''=>e=.returned (.tuple #[.int .i64 0,.agg #[.int .i64 0,.int .i64 0]])∧Below W.heap.size W w'')):=by
 refine(tarnDecode_any file adr w hG.t hG.s).mono ?_;rintro e w' ⟨hb,nm,ip,il,ic,gp,gl,gc,c,k,i,rfl,hD⟩;refine⟨nm,ip,il,ic,gp,gl,gc,c,k,i,rfl,hb,?_⟩;match hd:docD file with
 |.error (c',k',i')=>
  rw[hd]at hD;obtain⟨rfl,-,-,-⟩:=hD;exact Or.inl (docD_ne hd)
 |.ok Q=>
  rw[hd]at hD;obtain⟨rfl,rfl,rfl,hob⟩:=hD;obtain⟨h1,h2,h3,h4,h5⟩:=dec_enc hd;have hA:=hob.at (fineD_of hd) (Nat.le_refl _);refine Or.inr ⟨rfl,λW hW=>?_,λW hW=>?_⟩
  ·have hg:=(hG.keep hb).keep hW;have h:=tarnEnc_any Q _ W adr (hA.keep hW) hg.t hg.k h2;have he:docE Q=.tuple #[.string file,.int .i64 0]:=by
    rw[docE_eB];unfold eB;rw[if_pos h1,if_pos h3,<-h4]
   rw[he]at h;exact h
  ·have hg:=(hG.keep hb).keep hW;have h:=tarnSound_any Q _ W adr (hA.keep hW) hg.t hg.s;have he:docS Q=.tuple #[.int .i64 0,.agg #[.int .i64 0,.int .i64 0]]:=by
    rw[docS_fS];unfold fS;rw[if_pos h1,h5]
   rw[he]at h;exact h
theorem exact_any{w:World}{adr:Nat->Addr}{O:LObj}{v:Value}(file:ByteArray)(hG:Grd w adr)(hO:ObjAt w v O)(hR:RangeO O):Calls Tryz.prog 3 #[v,.string file] w λe w'=>e=.returned (.bool true)∧Below w.heap.size w w':=by
 have HO:=hid hO;obtain⟨iv,gv,rfl,hsz,hI,hGl⟩:=hO;obtain⟨ip,ic,rfl,hs1,-⟩:=hI.open;obtain⟨gp,gc,rfl,hs2,-⟩:=hGl.open;obtain⟨W0,hW0⟩:∃W0,W0=w.alloc (.cells #[.string O.name,.slice ip O.imps.length ic,.slice gp O.globs.length gc] 25):=⟨_,rfl⟩;have hb0:Below w.heap.size w W0:=by rw[hW0];exact(Below.refl _ _).alloc (Nat.le_refl _) _
 have HV0:Hid (V3 W0 w.heap.size (.string O.name) (.slice ip O.imps.length ic) (.slice gp O.globs.length gc)):=by rw[hW0];exact V3.new3 ..
 have HAL:=hid (alive_any (hG.keep hb0));have HK:=hid (λW (hb:Below W0.heap.size W0 W)=>(hG.keep hb0).keep hb);have HEN:Hid (∀W,Below W0.heap.size W0 W->Calls Tryz.prog 6 #[.agg #[.string O.name,.slice ip O.imps.length ic,.slice gp O.globs.length gc]] W λe w'=>e=.returned (.tuple #[.string (eB O).1,.int .i64 (eB O).2])∧Below W.heap.size W w'):=λW hb=>by
  have h:=tarnEnc_any O _ W adr ((HO.out.keep hb0).keep hb) (HK.out W hb).t (HK.out W hb).k hR;rw[docE_eB]at h;exact h
 have HSO:Hid (∀W,Below W0.heap.size W0 W->Calls Tryz.prog 7 #[.agg #[.string O.name,.slice ip O.imps.length ic,.slice gp O.globs.length gc]] W λe w'=>e=.returned (.tuple #[.int .i64 (fS O).1,.agg #[.int .i64 (fS O).2.1,.int .i64 (fS O).2.2]])∧Below W.heap.size W w'):=λW hb=>by
  have h:=tarnSound_any O _ W adr ((HO.out.keep hb0).keep hb) (HK.out W hb).t (HK.out W hb).s;rw[docS_fS]at h;exact h
 have HBK:=hid (λ(he:(eB O).2=0) W (hb:Below W0.heap.size W0 W)=>back (HK.out W hb) ((HO.out.keep hb0).keep hb) hR he);have HFO:=hid (λW (hb:Below W0.heap.size W0 W)=>fore file (HK.out W hb));have HB0:=hid hb0;have HN:=hid (λ(h:(eB O).2≠0)=>eB_no h);have HB:=hid (Below.refl W0.heap.size W0);generalize eB O=eo at*;obtain⟨sE,e0⟩:=eo;generalize fS O=fo at*;obtain⟨f0,f1,f2⟩:=fo;simp only at HEN HSO HBK HN;generalize O.name=nm0 at*;generalize O.imps.length=il0 at*;generalize O.globs.length=gl0 at*;clear hG hR HO hI hGl hb0;have hff:(file.toList==file.toList)=true:=by simp
 by_cases he:e0=0
 ·subst he;clear HN;go_enter Tryz.func3,Tryz.ntmps3;go_upto_region 1 with(fail)
  rw[<-hW0];clear hW0;go_upto_region 7 with(first
   |(go_at_call 5;refine HAL.out.mono ?_;rintro e w1 ⟨rfl,hb1⟩;replace HB:=hid hb1;obtain⟨c0,c1,c2,-⟩:=HV0.out.keep hb1;clear hb1)
   |(go_at_call 6;refine(HEN.out _ HB.out).mono ?_;rintro e w2 ⟨rfl,hb2⟩;replace HB:=hid (HB.out.trans (hb2.mono HB.out.size));replace c0:=cell_keep hb2 c0;replace c1:=cell_keep hb2 c1;replace c2:=cell_keep hb2 c2;clear hb2)
   |(go_at_call 7;refine(HSO.out _ HB.out).mono ?_;rintro e w3 ⟨rfl,hb3⟩;replace HB:=hid (HB.out.trans (hb3.mono HB.out.size));have HDB:=hid (HBK.out (by trivial) _ (HB.out.alloc HB.out.size (.cells #[.int .i64 f1,.int .i64 f2] 31)));replace HB:=hid (HB.out.alloc HB.out.size (.cells #[.int .i64 f1,.int .i64 f2] 31));clear hb3 c0 c1 c2)
   |(go_at_call 8;refine HDB.out.mono ?_;rintro e w4 ⟨nmb,jpb,jlb,jcb,hpb,hlb,hcb,kb,ib,rfl,hb4,HSM⟩;replace HB:=hid (HB.out.trans (hb4.out.mono HB.out.size));obtain⟨c0,c1,c2,-⟩:=HV0.out.keep HB.out;have c0a:=λo=>alloc_old w4 o _ _ _ c0;have c1a:=λo=>alloc_old w4 o _ _ _ c1;have c2a:=λo=>alloc_old w4 o _ _ _ c2;have c0b:=λo o'=>alloc_old _ o' _ _ _ (c0a o);have c1b:=λo o'=>alloc_old _ o' _ _ _ (c1a o);have c2b:=λo o'=>alloc_old _ o' _ _ _ (c2a o);clear hb4)
   |(go_at_call 9;have h2:Below w4.heap.size w4 ((w4.alloc (.cells #[.string nmb,.slice jpb jlb jcb,.slice hpb hlb hcb] 25)).alloc (.cells #[.int .i64 kb,.int .i64 ib] 31)):=(((Below.refl _ _).alloc (Nat.le_refl _) _).alloc (by simp) _);refine(HSM.out _ h2).mono ?_;rintro e wS ⟨b,rfl,hbS,hbt⟩;have hb45:Below w4.heap.size w4 wS:=h2.trans (hbS.out.mono h2.size);replace HB:=hid (HB.out.trans (hb45.mono HB.out.size));have HBT:=hid hbt;have HDF:=hid (HFO.out _ HB.out);clear hbS hb45 h2 hbt c0 c1 c2 c0a c1a c2a c0b c1b c2b))
  have hbb:(f0=0∧b=true)∨f0≠0:=by
   by_cases hf:f0=0
   ·exact Or.inl ⟨hf,HBT.out hf⟩
   ·exact Or.inr hf
  rcases hbb with⟨rfl,rfl⟩|hf0;all_goals
   go_upto_region 10 with(go_at_call 8;refine HDF.out.mono ?_;rintro e w4 ⟨nm,jp,jl,jc,hp,hl,hc,c,k,i,rfl,hb4,HC⟩;replace HB:=hid (HB.out.trans (hb4.out.mono HB.out.size));clear hb4)
   rcases HC.out with hc0|⟨rfl,hE2,hS2⟩
   ·go_wp2;go_ret;have hB4:=HB0.out.trans (HB.out.mono HB0.out.size);exact⟨rfl,(hB4.alloc hB4.size _).alloc (by simp;have:=hB4.size;omega) _⟩
   ·have HE2:=hid hE2;have HS2:=hid hS2;clear hE2 hS2;go_wp2_with (first
     |(go_at_call 6;refine(HE2.out _ (((Below.refl _ _).alloc (Nat.le_refl _) _).alloc (by simp) _)).mono ?_;rintro e w5 ⟨rfl,hb5⟩;obtain⟨d0,d1,d2,-⟩:=((V3.new3 w4 (.string nm) (.slice jp jl jc) (.slice hp hl hc) 25).keep ((Below.refl _ _).alloc (Nat.le_refl _) _)).keep hb5;have HB5:Hid (Below w4.heap.size w4 w5):=((((Below.refl w4.heap.size w4).alloc (Nat.le_refl _) _).alloc (by simp) _).trans (hb5.mono (by simp;omega)));clear hb5)
     |(go_at_call 7;refine(HS2.out _ HB5.out).mono ?_;rintro e w6 ⟨rfl,hb6⟩;have HB6:=hid (HB5.out.trans (hb6.mono HB5.out.size));clear hb6))
    go_ret;have hB4:=HB0.out.trans (HB.out.mono HB0.out.size);have h6:=hB4.trans (HB6.out.mono hB4.size);exact⟨rfl,h6.alloc h6.size _⟩
 ·have hsE:sE=⟨#[]⟩:=HN.out he;subst hsE;clear HBK HN;go_enter Tryz.func3,Tryz.ntmps3;go_upto_region 1 with(fail)
  rw[<-hW0];clear hW0;go_upto_region 10 with(first
   |(go_at_call 5;refine HAL.out.mono ?_;rintro e w1 ⟨rfl,hb1⟩;replace HB:=hid hb1;obtain⟨c0,c1,c2,-⟩:=HV0.out.keep hb1;clear hb1)
   |(go_at_call 6;refine(HEN.out _ HB.out).mono ?_;rintro e w2 ⟨rfl,hb2⟩;replace HB:=hid (HB.out.trans (hb2.mono HB.out.size));replace c0:=cell_keep hb2 c0;replace c1:=cell_keep hb2 c1;replace c2:=cell_keep hb2 c2;clear hb2)
   |(go_at_call 7;refine(HSO.out _ HB.out).mono ?_;rintro e w3 ⟨rfl,hb3⟩;replace HB:=hid (HB.out.trans (hb3.mono HB.out.size));have HDF:=hid (HFO.out _ (HB.out.alloc HB.out.size (.cells #[.int .i64 f1,.int .i64 f2] 31)));replace HB:=hid (HB.out.alloc HB.out.size (.cells #[.int .i64 f1,.int .i64 f2] 31));clear hb3 c0 c1 c2)
   |(go_at_call 8;refine HDF.out.mono ?_;rintro e w4 ⟨nm,jp,jl,jc,hp,hl,hc,c,k,i,rfl,hb4,HC⟩;replace HB:=hid (HB.out.trans (hb4.out.mono HB.out.size));clear hb4))
  rcases HC.out with hc0|⟨rfl,hE2,hS2⟩
  ·go_wp2;go_ret;have hB4:=HB0.out.trans (HB.out.mono HB0.out.size);exact⟨rfl,(hB4.alloc hB4.size _).alloc (by simp;have:=hB4.size;omega) _⟩
  ·have HE2:=hid hE2;have HS2:=hid hS2;clear hE2 hS2;go_wp2_with (first
    |(go_at_call 6;refine(HE2.out _ (((Below.refl _ _).alloc (Nat.le_refl _) _).alloc (by simp) _)).mono ?_;rintro e w5 ⟨rfl,hb5⟩;obtain⟨d0,d1,d2,-⟩:=((V3.new3 w4 (.string nm) (.slice jp jl jc) (.slice hp hl hc) 25).keep ((Below.refl _ _).alloc (Nat.le_refl _) _)).keep hb5;have HB5:Hid (Below w4.heap.size w4 w5):=((((Below.refl w4.heap.size w4).alloc (Nat.le_refl _) _).alloc (by simp) _).trans (hb5.mono (by simp;omega)));clear hb5)
    |(go_at_call 7;refine(HS2.out _ HB5.out).mono ?_;rintro e w6 ⟨rfl,hb6⟩;have HB6:=hid (HB5.out.trans (hb6.mono HB5.out.size));clear hb6))
   go_ret;have hB4:=HB0.out.trans (HB.out.mono HB0.out.size);have h6:=hB4.trans (HB6.out.mono hB4.size);exact⟨rfl,h6.alloc h6.size _⟩
end Go.Proofs.YtcpcplaeaimmpaaGreatDoor
namespace Go.Proofs.YtcpcplaeaimmpaaGreatDoor
open Go.ChangeShapes Go.WideShapes Go.ChangeAt Go.RowKit
theorem Tryz.own:ownKnob Tryz.prog.godebug=none:=by kernel_rfl
theorem Tryz.laidOut:laidOutB Tryz.prog=true:=by kernel_rfl
theorem Tryz.readObj:Tryz.prog.readableRec 25=true:=by kernel_rfl
theorem exact_contract(H:Type)(enc:TypeId×Value->H)(W:World)(base:Nat)(args:Array Value)(ds gs:List (DataW H))(before:List MemPlace)
 (hval:∀(j:Nat) t v,Tryz.f3.params[j]?=some t->args[j]?=some v->Value.okWide Tryz.prog W .any base t v)
 (hW:DataW.Whole enc Tryz.prog Tryz.f3.params.toList Rows.exactSpec.vars false W args.toList ds gs before)
 (hwt:∀(j:Nat) (t:TypeId) (d:DataW H),Tryz.f3.params.toList[j]?=some t->ds[j]?=some d->∀n∈d.weights Tryz.prog t,n<=reachBytes)
 (hL:laidMetH Tryz.prog Rows.exactRow.laid W):
 Calls Tryz.prog 3 args W λe W'=>∃v,e=.returned v∧Rows.exactSpec.post enc Tryz.prog Tryz.f3 false true false false W args v W':=by
 have hW':=hW;obtain⟨p,q,hA0,hV,rfl,hfz,hnd⟩:=hW;have hA:DataW.TrodAll enc Tryz.prog W 0 (λ_=>true) true Tryz.f3.params.toList args.toList ds p:=hA0;rw[Tryz.params3]at hA hval hwt;obtain⟨v0,vs0,d0,ds0,p0,q0,hargs,rfl,rfl,h0,r0⟩:=trodAll_cons hA;obtain⟨v1,vs1,d1,ds1,p1,q1,hargs1,rfl,rfl,h1,r1⟩:=trodAll_cons r0;obtain⟨rfl,rfl,rfl⟩:=trodAll_nil r1;obtain rfl:args=#[v0,v1]:=by cases args;simp_all
 obtain⟨rfl,rfl⟩:=trodVars_none hV;simp only[List.append_nil]at hW';obtain⟨O,hO,hR⟩:=obj_of2 (hval 0 25 v0 rfl rfl) h0 (hwt 0 25 d0 rfl rfl);obtain⟨s,rfl⟩:=okWide_string Tryz.underlying9 (hval 1 9 v1 rfl rfl);obtain⟨f1,h1'⟩:=id h1;obtain⟨s',e0,x0,hs⟩:=DataW.trod_string Tryz.underlying9 h1';obtain rfl:s=s':=by have h:[Value.string s]=[Value.string s']:=e0;simpa using h
 obtain⟨adr,hG⟩:=grd_of hL;refine(exact_any s hG hO hR).mono λe W' ⟨he,hb⟩=>?_;subst he;have hp1:p1=[]:=(Prod.mk.inj x0).2;have hd1:d1=.lit (.string s.data.toList):=(Prod.mk.inj x0).1;subst hp1 hd1;have hlt:∀x∈p0,x.block<W.heap.size:=λx hx=>by simpa using hW'.lt x (by simp[hx])
 refine⟨_,rfl,_,_,_,[],p0++[],[],by simpa using hW',?_,?_,?_,?_,λh=>by cases h⟩
 ·exact trodAll_mk1 (shut_bool Tryz.underlying4 true)
 ·rw[Tryz.params3];exact trodAll_mk2 (Below.trod Tryz.laidOut Tryz.readObj (of_decide_eq_true (by kernel_rfl)) h0 hb hlt) (Go.Deep.shut_string_cell Tryz.underlying9 hs)
 ·rfl
 ·exact hb.frame _
noncomputable def low:Nat:=(World.holding Tryz.prog default ⟨#[],#[],[]⟩).heap.size
def natsOf:DataW Unit->List Lit
 |.agg l=>l.filterMap fun|.lit x=>some x|_=>none
 |_=>[]
def cellOf:Lit->Value
 |.int k n=>.int k n
 |.bool b=>.bool b
 |_=>.nilIface
def xTxt(i:Nat):List UInt8:=if i<19 then kTxt i else if i=19 then txt Rows.laid_strconv_ErrSyntax else txt Rows.laid_strconv_ErrRange
def xNum(i:Nat):Nat:=if i<19 then kNum i else if i=19 then 25 else 26
noncomputable def laidWorld(os:Os):World:=
 let w0:=World.holding Tryz.prog os ⟨((List.range 21).map λi=>Obj.cells #[.string ⟨(xTxt i).toArray⟩] 449).toArray,#[],[]⟩
 {w0 with heap:=((((((List.range 21).foldl (λ(h:Array Obj) i=>h.modify (xNum i) fun
  |.cells _ t frozen=>.cells #[.iface 447 (.pointer (some ⟨low+i,0,none⟩))] t frozen
  |o=>o) w0.heap).modify 19 fun
  |.cells _ t frozen=>.cells #[.iface 195 (.agg #[.pointer (some ⟨27,49,none⟩)])] t frozen
  |o=>o).modify 20 fun
  |.cells _ t frozen=>.cells (rowsTab.map λz=>Value.int .i64 z).toArray t frozen
  |o=>o).modify 22 fun
  |.cells _ t frozen=>.cells ((natsOf Rows.laid_internal_strconv_uint64pow10).map cellOf).toArray t frozen
  |o=>o).modify 23 fun
  |.cells _ t frozen=>.cells ((natsOf Rows.laid_math_bits_deBruijn32tab).map cellOf).toArray t frozen
  |o=>o).modify 24 fun
  |.cells _ t frozen=>.cells ((natsOf Rows.laid_math_bits_deBruijn64tab).map cellOf).toArray t frozen
  |o=>o}
def argX:Array Value:=#[.agg #[.string ⟨#[]⟩,.slice none 0 0,.slice none 0 0],.string ⟨#[]⟩]
theorem laid_met(os:Os):laidMetH Tryz.prog Rows.exactRow.laid ((laidWorld os).forCall (λ_ _=>0) ⟨#[],argX,[]⟩).memory:=
 laidMetH_of_parts (laidMet_of_run3 8 (by kernel_rfl) (by kernel_rfl) (by kernel_rfl)) (by kernel_rfl)
theorem reads(os:Os){H:Type}(enc:TypeId×Value->H):∃places,DataW.whole enc Tryz.prog ((laidWorld os).forCall (λ_ _=>0) ⟨#[],argX,[]⟩).memory Tryz.f3.params.toList Rows.exactSpec.vars false argX.toList 8=some ([.agg [.lit (.string []),.nil,.nil],.lit (.string [])],[],places):=
 ⟨[],by kernel_rfl⟩
end Go.Proofs.YtcpcplaeaimmpaaGreatDoor
