import Derived.Test.YtlccndplhfcknaaGreatDoorPlaceJ
import Derived.Test.YtlccndplhfcknaaGreatDoorRefSoundsJ
set_option maxRecDepth 100000
set_option maxHeartbeats 4000000
namespace Go.Proofs.YtlccndplhfcknaaGreatDoor
open Go.RowKit Go.Sort
def errS(adr:Nat->Addr):Option (Nat×Nat×Nat)->Value
 |some (e,k,i)=>errF (adr (e+1)) (k:Int) (i:Int)
 |none=>.nilIface
theorem gBad_le{code:List LIns}{d0 most:Int}{e i:Nat}(h:gBad code d0 most=some (e,i)):e<=2:=by
 unfold gBad at h;split at h
 ·simp at h;omega
 ·split at h
  ·simp at h;omega
  ·split at h
   ·simp at h;omega
   ·split at h
    ·simp at h;omega
    ·cases h
def Looks(code:List LIns)(d0 most:Int)(r:Option (Nat×Nat)):Prop:=
 (∃k,firstBad (badIdx most) code=some k∧r=some (0,k))∨
 (firstBad (badIdx most) code=none∧((∃k:Nat,wildJ code=.tuple #[.int .i64 (k:Int),.bool true]∧r=some (1,k))∨
  (∃k:Int,wildJ code=.tuple #[.int .i64 k,.bool false]∧Fine code∧((∃k,firstBad (badD (depOf code d0)) code=some k∧r=some (2,k))∨(firstBad (badD (depOf code d0)) code=none∧r=none)))))
theorem looks_of{code:List LIns}(d0 most:Int)(hg:codeG code=true):Looks code d0 most (gBad code d0 most):=by
 cases h1:firstBad (badIdx most) code with
 |some k=>exact Or.inl ⟨k,h1,gBad_idx h1⟩
 |none=>
  refine Or.inr ⟨h1,?_⟩;have hw:=wildJ_eq hg;by_cases h0:code.length=0
  ·rw[if_pos h0]at hw;exact Or.inl ⟨0,hw,gBad_empty h1 h0⟩
  ·rw[if_neg h0]at hw;cases h2:firstBad (badNext code.length) code with
   |some k=>
    rw[h2]at hw;exact Or.inl ⟨k,hw,gBad_jump h1 h0 h2⟩
   |none=>
    rw[h2]at hw;refine Or.inr ⟨_,hw,(fine_of hg h0 h2).fine,?_⟩;cases h3:firstBad (badD (depOf code d0)) code with
    |some k=>exact Or.inl ⟨k,rfl,by unfold gBad;rw[h1];simp only;rw[if_neg h0,h2];simp only;rw[h3]⟩
    |none=>exact Or.inr ⟨rfl,by unfold gBad;rw[h1];simp only;rw[if_neg h0,h2];simp only;rw[h3]⟩
theorem objSound_any(adr:Nat->Addr)(nm:ByteArray)(iv gv:Value)(imps:List LImp)(globs:List LGlob)(w:World)(hI:ImpsAt w iv imps)(hG:GlobsAt w gv globs)(hg:GoodGs globs)(hT:TabAt w)(hS:SentAt w adr):
 Calls Tryz.prog 33 #[.agg #[.string nm,iv,gv]] w λe w'=>e=.returned (errS adr (sBad (imps.length+globs.length) globs 0))∧Below w.heap.size w w':=by
 obtain⟨ip,ic,rfl,hi1,-⟩:=hI.open;obtain⟨p,cap,rfl,hs1,hcell⟩:=hG.open;have HC:Hid (∀w',Below w.heap.size w w'->GlobsIn w' p globs):=hcell;have HG:Hid (GoodGs globs):=hg;have HT:Hid (TabAt w):=hT;have HS:Hid (SentAt w adr):=hS;clear hcell hG hg hI hT hS;go_enter Tryz.func33,Tryz.ntmps33;go_wp2;go_loopw [22] (λi wr=>∃k:Nat,k<=globs.length∧i=.int .i64 k∧Hid (sBad ((imps.length:Int)+(globs.length:Int)) globs 0=sBad ((imps.length:Int)+(globs.length:Int)) (globs.drop k) k)∧Hid (Below w.heap.size w wr)) (λi _=>globs.length-(intOf i).toNat)
 case atStart=>exact⟨0,Nat.zero_le _,rfl,rfl,(Below.refl _ _).alloc (Nat.le_refl _) _⟩
 case round=>
  obtain⟨k,hk,rfl,ha,hb⟩:=hrel;by_cases hlt:k<globs.length
  ·obtain⟨b,o,cp,cn,cc,rfl,c0,c1,c2,c3,hC,hsz⟩:=HC.out _ hb.out k hlt;obtain⟨g1,g2,g3⟩:=HG.out k hlt;have hL:=looks_of (globs[k].arity+1) ((imps.length:Int)+(globs.length:Int)) g1;have HSS:Hid (∀e i,gBad globs[k].code (globs[k].arity+1) ((imps.length:Int)+(globs.length:Int))=some (e,i)->sBad ((imps.length:Int)+(globs.length:Int)) globs 0=some (e,k,i)):=λe i h=>by rw[ha.out];exact sBad_some hlt h
   have HSN:Hid (gBad globs[k].code (globs[k].arity+1) ((imps.length:Int)+(globs.length:Int))=none->sBad ((imps.length:Int)+(globs.length:Int)) globs 0=sBad ((imps.length:Int)+(globs.length:Int)) (globs.drop (k+1)) (k+1)):=λh=>by rw[ha.out];exact sBad_next hlt h
   have HWI:Hid (∀w',Below wr.heap.size wr w'->Calls Tryz.prog 53 #[.slice cp cn cc,.int .i64 ((imps.length:Int)+(globs.length:Int))] w' λe w''=>e=.returned (pairOf (firstBad (badIdx ((imps.length:Int)+(globs.length:Int))) globs[k].code))∧Below w'.heap.size w' w''):=λw' hbw=>wildIndex_any _ _ _ w' (hC.keep hbw);have HWJ:Hid (∀w',Below wr.heap.size wr w'->Calls Tryz.prog 55 #[.slice cp cn cc] w' λe w''=>e=.returned (wildJ globs[k].code)∧Below w'.heap.size w' w''):=λw' hbw=>wildJump_any _ _ w' (hC.keep hbw);have HWD:Hid (Fine globs[k].code->∀w',Below wr.heap.size wr w'->Calls Tryz.prog 56 #[.slice cp cn cc,.int .i64 (globs[k].arity+1)] w' λe w''=>e=.returned (pairOf (firstBad (badD (depOf globs[k].code (globs[k].arity+1))) globs[k].code))∧Below w'.heap.size w' w''):=λhf w' hbw=>(wrongDepth_any _ _ _ w' (hC.keep hbw) (HT.out.keep (hb.out.trans (hbw.mono hb.out.size))) hf (by omega) (by omega)).mono λ_ _ ⟨⟨dep,hd,he⟩,h2⟩=>⟨by rw[depOf_eq hd];exact he,h2⟩;have hbs:=hb.out.size;rename World=>W2
   have HB0:Hid (∀ob,Below W2.heap.size W2 (W2.alloc ob)):=λob=>(Below.refl _ _).alloc (Nat.le_refl _) _;have HCL:Hid (∀w',Below W2.heap.size W2 w'->w'.cell? ⟨13,0,none⟩=some (.iface 234 (.pointer (some (adr 1))))∧w'.cell? ⟨14,0,none⟩=some (.iface 234 (.pointer (some (adr 2))))∧w'.cell? ⟨15,0,none⟩=some (.iface 234 (.pointer (some (adr 3))))):=λw' hbw=>by
    have h:=HS.out.keep (hb.out.trans (hbw.mono hbs));exact⟨h.c 1 (by omega),h.c 2 (by omega),h.c 3 (by omega)⟩
   clear hC g1 ha;generalize gBad globs[k].code (globs[k].arity+1) ((imps.length:Int)+(globs.length:Int))=r at*;generalize globs[k].code=code at*;generalize globs[k].name=gn at*;generalize globs[k].arity=ar at*;generalize globs[k].exp=gex at*;rcases hL with⟨j,h1,rfl⟩|⟨h1,⟨j,h2,rfl⟩|⟨j,h2,hf,h3⟩⟩
   ·have HR:=hid (HSS.out _ _ rfl);rw[h1]at HWI;go_wp2_with (first|(go_at_call 53;refine(HWI.out _ (HB0.out _)).mono ?_;rintro e w1 ⟨rfl,hb1⟩;have hb2:Below W2.heap.size W2 w1:=(HB0.out _).trans (hb1.mono (by simp));have y3:=cell_keep hb1 (alloc_cell W2 _ _ 3 _ rfl);have y1:=cell_keep hb1 (alloc_cell W2 _ _ 1 _ rfl);obtain⟨s1,s2,s3⟩:=HCL.out _ hb2;simp only[pairOf])|(go_at_call 54;refine(In_any _ _ _ _ _).mono ?_;rintro e w7 ⟨rfl,hb7⟩))
    go_ret;exact⟨ret_val (by rw[HR.out];rfl),(hb.out.trans (hb2.mono hbs)).trans (hb7.mono (by have:=hb2.size;omega))⟩
   ·have HR:=hid (HSS.out _ _ rfl);rw[h1]at HWI;rw[h2]at HWJ;go_wp2_with (first|(go_at_call 53;refine(HWI.out _ (HB0.out _)).mono ?_;rintro e w1 ⟨rfl,hb1⟩;have hb2:Below W2.heap.size W2 w1:=(HB0.out _).trans (hb1.mono (by simp));have y3:=cell_keep hb1 (alloc_cell W2 _ _ 3 _ rfl);have y1:=cell_keep hb1 (alloc_cell W2 _ _ 1 _ rfl);obtain⟨s1,s2,s3⟩:=HCL.out _ hb2;simp only[pairOf])|(go_at_call 55;refine(HWJ.out _ hb2).mono ?_;rintro e w3 ⟨rfl,hb3⟩;have hb4:Below W2.heap.size W2 w3:=hb2.trans (hb3.mono hb2.size);have y3:=cell_keep hb3 y3;have y1:=cell_keep hb3 y1;obtain⟨s1,s2,s3⟩:=HCL.out _ hb4)|(go_at_call 54;refine(In_any _ _ _ _ _).mono ?_;rintro e w7 ⟨rfl,hb7⟩))
    go_ret;exact⟨ret_val (by rw[HR.out];rfl),(hb.out.trans (hb4.mono hbs)).trans (hb7.mono (by have:=hb4.size;omega))⟩
   ·have HWD2:=hid (HWD.out hf);rw[h1]at HWI;rw[h2]at HWJ;clear HWD hf h1 h2;rcases h3 with⟨j3,h3,rfl⟩|⟨h3,rfl⟩
    ·have HR:=hid (HSS.out _ _ rfl);rw[h3]at HWD2;go_wp2_with (first|(go_at_call 53;refine(HWI.out _ (HB0.out _)).mono ?_;rintro e w1 ⟨rfl,hb1⟩;have hb2:Below W2.heap.size W2 w1:=(HB0.out _).trans (hb1.mono (by simp));have y3:=cell_keep hb1 (alloc_cell W2 _ _ 3 _ rfl);have y1:=cell_keep hb1 (alloc_cell W2 _ _ 1 _ rfl);obtain⟨s1,s2,s3⟩:=HCL.out _ hb2;simp only[pairOf])|(go_at_call 55;refine(HWJ.out _ hb2).mono ?_;rintro e w3 ⟨rfl,hb3⟩;have hb4:Below W2.heap.size W2 w3:=hb2.trans (hb3.mono hb2.size);have y3:=cell_keep hb3 y3;have y1:=cell_keep hb3 y1;obtain⟨s1,s2,s3⟩:=HCL.out _ hb4)|(go_at_call 56;refine(HWD2.out _ hb4).mono ?_;rintro e w5 ⟨rfl,hb5⟩;have hb6:Below W2.heap.size W2 w5:=hb4.trans (hb5.mono hb4.size);obtain⟨s1,s2,s3⟩:=HCL.out _ hb6;simp only[pairOf])|(go_at_call 54;refine(In_any _ _ _ _ _).mono ?_;rintro e w7 ⟨rfl,hb7⟩))
     go_ret;exact⟨ret_val (by rw[HR.out];rfl),(hb.out.trans (hb6.mono hbs)).trans (hb7.mono (by have:=hb6.size;omega))⟩
    ·have HR:=hid (HSN.out rfl);rw[h3]at HWD2;go_wp2_with (first|(go_at_call 53;refine(HWI.out _ (HB0.out _)).mono ?_;rintro e w1 ⟨rfl,hb1⟩;have hb2:Below W2.heap.size W2 w1:=(HB0.out _).trans (hb1.mono (by simp));have y3:=cell_keep hb1 (alloc_cell W2 _ _ 3 _ rfl);have y1:=cell_keep hb1 (alloc_cell W2 _ _ 1 _ rfl);obtain⟨s1,s2,s3⟩:=HCL.out _ hb2;simp only[pairOf])|(go_at_call 55;refine(HWJ.out _ hb2).mono ?_;rintro e w3 ⟨rfl,hb3⟩;have hb4:Below W2.heap.size W2 w3:=hb2.trans (hb3.mono hb2.size);have y3:=cell_keep hb3 y3;have y1:=cell_keep hb3 y1;obtain⟨s1,s2,s3⟩:=HCL.out _ hb4)|(go_at_call 56;refine(HWD2.out _ hb4).mono ?_;rintro e w5 ⟨rfl,hb5⟩;have hb6:Below W2.heap.size W2 w5:=hb4.trans (hb5.mono hb4.size);obtain⟨s1,s2,s3⟩:=HCL.out _ hb6;simp only[pairOf]))
     exact⟨⟨k+1,by omega,by go_num,HR,hb.out.trans (hb6.mono hbs)⟩,by simp[intOf];omega⟩
  ·go_wp2;go_ret;exact⟨ret_val (by rw[ha.out,List.drop_of_length_le (by omega)];rfl),hb.out⟩
theorem sBad_le{most:Int}{e k i:Nat}:∀(l:List LGlob) (j:Nat),sBad most l j=some (e,k,i)->e<=2
 |[],_,h=>by simp[sBad]at h
 |g::r,j,h=>by
  rw[sBad]at h;split at h
  ·rename_i e' i' hb
   have:=gBad_le hb;simp at h;omega
  ·exact sBad_le r (j+1) h
theorem kCode_next{e:Nat}(h:e<=2):kCode (e+1)=12+(e:Int):=by
 rcases(show e=0∨e=1∨e=2 by omega) with rfl|rfl|rfl<;>rfl
structure Told (w:World) (v:Value) (c x y:Int):Prop where
 kind:∀w',Below w.heap.size w w'->Calls Tryz.prog 14 #[v] w' λe w''=>e=.returned (.int .i64 c)∧Below w'.heap.size w' w''
 place:∀w',Below w.heap.size w w'->Calls Tryz.prog 15 #[v] w' λe w''=>e=.returned (.agg #[.int .i64 x,.int .i64 y])∧Below w'.heap.size w' w''
theorem told_nil(w:World):Told w .nilIface 0 0 0:=⟨λw' _=>(kind_nil w').mono λ_ _ ⟨h1,h2⟩=>⟨h1,by rw[h2];exact Below.refl _ _⟩,λw' _=>place_nil w'⟩
theorem told_plain{w:World}{adr:Nat->Addr}(hS:SentAt w adr)(i:Nat)(hi:0<=i∧i<19):Told w (errE (adr i)) (kCode i) 0 0:=⟨λ_ hb=>kind_plain (hS.keep hb) i hi,λ_ hb=>place_plain (hS.keep hb) (adr i)⟩
theorem told_fault{w:World}{adr:Nat->Addr}(hS:SentAt w adr)(i:Nat)(hi:0<=i∧i<19)(k n:Int):Told w (errF (adr i) k n) (kCode i) k n:=⟨λ_ hb=>kind_fault (hS.keep hb) i hi k n,λ_ hb=>place_fault (hS.keep hb) (adr i) k n⟩
noncomputable def errC(adr:Nat->Addr)(O:LObj):Value:=if valsG O then errS adr (sBad (O.imps.length+O.globs.length) O.globs 0) else errE (adr 0)
theorem objCheck_any(O:LObj)(v:Value)(w:World)(adr:Nat->Addr)(hO:ObjAt w v O)(hT:TabAt w)(hS:SentAt w adr):
 Calls Tryz.prog 20 #[v] w λe w'=>e=.returned (errC adr O)∧Below w.heap.size w w':=by
 have HVA:Hid (∀w',Below w.heap.size w w'->Calls Tryz.prog 32 #[v] w' λe w''=>e=.returned (errV (valsG O) (errE (adr 0)))∧Below w'.heap.size w' w''):=λw' hb=>Values_any O v (errE (adr 0)) w' (hO.keep hb) (hT.keep hb) ((hS.keep hb).c 0 (by omega)) ⟨_,_,rfl⟩;obtain⟨iv,gv,rfl,hsz,hI,hG⟩:=id hO;obtain⟨ip,ic,rfl,hi1,-⟩:=hI.open;obtain⟨p,cap,rfl,hs1,-⟩:=hG.open;have HB0:Hid (∀o,Below w.heap.size w (w.alloc o)):=λo=>(Below.refl _ _).alloc (Nat.le_refl _) _;cases hv:valsG O
 ·have HV2:Hid (∀w',Below w.heap.size w w'->Calls Tryz.prog 32 #[.agg #[.string O.name,.slice ip O.imps.length ic,.slice p O.globs.length cap]] w' λe w''=>e=.returned (.iface 234 (.pointer (some (adr 0))))∧Below w'.heap.size w' w''):=by
   have:=HVA.out;rw[hv]at this;exact this
  have HD:Hid (errC adr O=.iface 234 (.pointer (some (adr 0)))):=by show _=_;unfold errC;rw[hv];rfl
  clear hO hT hS hI hG HVA hv;generalize O.imps.length=n1 at*;generalize O.globs.length=n2 at*;go_enter Tryz.func20,Tryz.ntmps20;go_wp2_with (first|(go_at_call 32;refine(HV2.out _ (HB0.out _)).mono ?_;rintro e w1 ⟨rfl,hb1⟩))
  go_ret;exact⟨ret_val HD.out.symm,(HB0.out _).trans (hb1.mono (by simp))⟩
 ·have HV2:Hid (∀w',Below w.heap.size w w'->Calls Tryz.prog 32 #[.agg #[.string O.name,.slice ip O.imps.length ic,.slice p O.globs.length cap]] w' λe w''=>e=.returned .nilIface∧Below w'.heap.size w' w''):=by
   have:=HVA.out;rw[hv]at this;exact this
  have HOS:Hid (∀w',Below w.heap.size w w'->Calls Tryz.prog 33 #[.agg #[.string O.name,.slice ip O.imps.length ic,.slice p O.globs.length cap]] w' λe w''=>e=.returned (errC adr O)∧Below w'.heap.size w' w''):=by
   intro w' hb;have hg:GoodGs O.globs:=by
    have hv':=hv;simp only[valsG,Bool.and_eq_true]at hv';exact goodGs_of _ _ _ hv'.2
   have hc:errC adr O=errS adr (sBad (O.imps.length+O.globs.length) O.globs 0):=by unfold errC;rw[hv];rfl
   rw[hc];exact objSound_any adr O.name _ _ O.imps O.globs w' (hI.keep hb) (hG.keep hb) hg (hT.keep hb) (hS.keep hb)
  clear hO hT hS hI hG HVA hv;generalize O.imps.length=n1 at*;generalize O.globs.length=n2 at*;generalize errC adr O=r at*;go_enter Tryz.func20,Tryz.ntmps20;go_wp2_with (first|(go_at_call 32;refine(HV2.out _ (HB0.out _)).mono ?_;rintro e w1 ⟨rfl,hb0⟩;have hb1:Below w.heap.size w w1:=(HB0.out _).trans (hb0.mono (by simp));have y0:=cell_keep hb0 (alloc_cell w _ _ 0 _ rfl);have y1:=cell_keep hb0 (alloc_cell w _ _ 1 _ rfl);have y2:=cell_keep hb0 (alloc_cell w _ _ 2 _ rfl))|(go_at_call 33;refine(HOS.out _ hb1).mono ?_;rintro e w3 ⟨rfl,hb3⟩))
  go_ret;exact⟨rfl,hb1.trans (hb3.mono hb1.size)⟩
theorem tarnSound_told(O:LObj)(v r:Value)(c x y:Int)(w:World)(hO:ObjAt w v O)(hC:∀w',Below w.heap.size w w'->Calls Tryz.prog 20 #[v] w' λe w''=>e=.returned r∧Below w'.heap.size w' w'')(hT:Told w r c x y):
 Calls Tryz.prog 10 #[v] w λe w'=>e=.returned (.tuple #[.int .i64 c,.agg #[.int .i64 x,.int .i64 y]])∧Below w.heap.size w w':=by
 obtain⟨iv,gv,rfl,hsz,hI,hG⟩:=id hO;obtain⟨ip,ic,rfl,hi1,-⟩:=hI.open;obtain⟨p,cap,rfl,hs1,-⟩:=hG.open;have HC:Hid (∀w',Below w.heap.size w w'->Calls Tryz.prog 20 #[.agg #[.string O.name,.slice ip O.imps.length ic,.slice p O.globs.length cap]] w' λe w''=>e=.returned r∧Below w'.heap.size w' w''):=hC;have HT0:Hid (Told w r c x y):=hT;clear hC hT hO hI hG;generalize O.imps.length=n1 at*;generalize O.globs.length=n2 at*;have HB0:Hid (∀o1 o2,Below w.heap.size w ((w.alloc o1).alloc o2)):=λo1 o2=>((Below.refl _ _).alloc (Nat.le_refl _) _).alloc (by simp) _;have HP0:Hid (∀o1,P2 ((w.alloc o1).alloc (.cells #[.int .i64 0,.int .i64 0] 46)) (w.heap.size+1)):=λo1=>⟨by simp,by simp,by simp,by simp⟩;go_enter Tryz.func10,Tryz.ntmps10;go_wp2_with (first
  |(go_at_call 20;refine(HC.out _ (HB0.out _ _)).mono ?_;rintro e w1 ⟨rfl,hb1⟩;have hp1:=(HP0.out _).keep hb1;have hb2:Below w.heap.size w w1:=(HB0.out _ _).trans (hb1.mono (by simp;omega)))
  |(go_at_call 14;refine(HT0.out.kind _ hb2).mono ?_;rintro e w3 ⟨rfl,hb3⟩;have hp3:=hp1.keep hb3;have hb4:Below w.heap.size w w3:=hb2.trans (hb3.mono hb2.size))
  |(go_at_call 15;refine(HT0.out.place _ hb4).mono ?_;rintro e w5 ⟨rfl,hb5⟩;have hp5:=hp3.keep hb5;have HP5:Hid (P2 w5 (w.heap.size+1)):=hp5;have HB6:Hid (Below w.heap.size w w5):=hb4.trans (hb5.mono hb4.size);obtain⟨p0,p1,p2,p3⟩:=hp5))
 obtain⟨s0,s1⟩:=HP5.out.put (.int .i64 x) (.int .i64 y);refine bodyPost_ret (v:=.tuple #[.int .i64 c,.agg #[.int .i64 x,.int .i64 y]]) (by simp[results,Tryz.results10,go_sem,s0,s1]) rfl ?_;exact⟨rfl,(HB6.out.setCell (by simp) _).setCell (by simp) _⟩
theorem tarnSound_any(O:LObj)(v:Value)(w:World)(adr:Nat->Addr)(hO:ObjAt w v O)(hT:TabAt w)(hS:SentAt w adr):
 Calls Tryz.prog 10 #[v] w λe w'=>e=.returned (docS O)∧Below w.heap.size w w':=by
 have hC:∀w',Below w.heap.size w w'->Calls Tryz.prog 20 #[v] w' λe w''=>e=.returned (errC adr O)∧Below w'.heap.size w' w'':=λw' hb=>objCheck_any O v w' adr (hO.keep hb) (hT.keep hb) (hS.keep hb);cases hv:valsG O
 ·have h1:errC adr O=errE (adr 0):=by unfold errC;rw[hv];rfl
  have h2:docS O=.tuple #[.int .i64 15,.agg #[.int .i64 0,.int .i64 0]]:=by unfold docS;rw[hv];rfl
  rw[h2];rw[h1]at hC;exact tarnSound_told O v _ 15 0 0 w hO hC (told_plain hS 0 (by omega))
 ·have h1:errC adr O=errS adr (sBad (O.imps.length+O.globs.length) O.globs 0):=by unfold errC;rw[hv];rfl
  rw[h1]at hC;cases hsb:sBad (O.imps.length+O.globs.length) O.globs 0 with
  |none=>
   have h2:docS O=.tuple #[.int .i64 0,.agg #[.int .i64 0,.int .i64 0]]:=by unfold docS;rw[hv,hsb];rfl
   rw[h2];rw[hsb]at hC;exact tarnSound_told O v _ 0 0 0 w hO hC (told_nil w)
  |some r=>
   obtain⟨e,k,i⟩:=r;have he:=sBad_le _ _ hsb;have h2:docS O=.tuple #[.int .i64 (12+(e:Int)),.agg #[.int .i64 (k:Int),.int .i64 (i:Int)]]:=by unfold docS;rw[hv,hsb];rfl
   rw[h2];rw[hsb]at hC;refine tarnSound_told O v _ _ _ _ w hO hC ?_;rw[<-kCode_next he];exact told_fault hS (e+1) (by omega) _ _
end Go.Proofs.YtlccndplhfcknaaGreatDoor
