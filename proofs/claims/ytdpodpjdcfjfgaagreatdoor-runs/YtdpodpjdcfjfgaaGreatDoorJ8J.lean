import Derived.Test.YtdpodpjdcfjfgaaGreatDoorShapedJ
import Derived.Test.YtdpodpjdcfjfgaaGreatDoorDepthsJ
import Derived.Test.YtdpodpjdcfjfgaaGreatDoorJ9J
set_option maxRecDepth 100000
set_option maxHeartbeats 8000000
namespace Go.Proofs.YtdpodpjdcfjfgaaGreatDoor
open Go.RowKit Go.Sort
theorem global_any:GlobalOk:=λnm ar ex v code most w hC hG ha=>global_try (λnm ar ex v code w h1 h2 h3=>depths_try nm ar ex v code w h1 h2 h3) nm ar ex v code most w hC hG ha
theorem goodGs_of(imps:List LImp):∀(l:List LGlob) (last:ByteArray),globsFrom imps last l=true->GoodGs l
 |[],_,_=>λk hk=>absurd hk (by simp)
 |g::r,last,h=>by
  simp only[globsFrom,Bool.and_eq_true]at h;obtain⟨⟨⟨⟨⟨_,_⟩,_⟩,h4⟩,h5⟩,h6⟩:=h;intro k hk;cases k with
  |zero=>
   refine⟨h5,?_⟩;simp[arB]at h4;exact h4
  |succ j=>exact goodGs_of imps r _ h6 j (by simpa using hk)
noncomputable def docS(O:LObj):Value:=if valsG O then resS (sBad (O.imps.length+O.globs.length) O.globs 0) else .tuple #[.int .i64 15,.agg #[.int .i64 0,.int .i64 0]]
theorem refSounds_any(O:LObj)(v:Value)(w:World)(hO:ObjAt w v O):
 Calls Tryz.prog 60 #[v] w λe w'=>e=.returned (docS O)∧Below w.heap.size w w':=by
 obtain⟨iv,gv,rfl,hsz,hI,hG⟩:=id hO;obtain⟨ip,ic,rfl,hi1,-⟩:=hI.open;obtain⟨p,cap,rfl,hs1,-⟩:=hG.open;have HSH:Hid (∀w',Below w.heap.size w w'->Calls Tryz.prog 110 #[.agg #[.string O.name,.slice ip O.imps.length ic,.slice p O.globs.length cap]] w' λe w''=>e=.returned (.bool (valsG O))∧Below w'.heap.size w' w''):=λw' hb=>Shaped_any O _ w' (hO.keep hb);have HSO:Hid (valsG O=true->∀w',Below w.heap.size w w'->Calls Tryz.prog 48 #[.agg #[.string O.name,.slice ip O.imps.length ic,.slice p O.globs.length cap]] w' λe w''=>e=.returned (docS O)∧Below w'.heap.size w' w''):=by
  intro hv w' hb;have hg:GoodGs O.globs:=by
   simp only[valsG,Bool.and_eq_true]at hv;exact goodGs_of _ _ _ hv.2
  have:=refSound_try global_any O.name _ _ O.imps O.globs w' (hI.keep hb) (hG.keep hb) hg;unfold docS;rw[if_pos hv];exact this
 have HBAD:Hid (valsG O=false->docS O=.tuple #[.int .i64 15,.agg #[.int .i64 0,.int .i64 0]]):=by intro h;unfold docS;rw[h];rfl
 obtain⟨x,y,z,hD⟩:∃x y z:Int,docS O=.tuple #[.int .i64 x,.agg #[.int .i64 y,.int .i64 z]]:=by
  unfold docS resS;split
  ·split
   ·exact⟨_,_,_,rfl⟩
   ·exact⟨_,_,_,rfl⟩
  ·exact⟨_,_,_,rfl⟩
 have hb0:∀o1 o2,Below w.heap.size w ((w.alloc o1).alloc o2):=λo1 o2=>((Below.refl _ _).alloc (Nat.le_refl _) _).alloc (by simp) _;have HB0:Hid (∀o1 o2,Below w.heap.size w ((w.alloc o1).alloc o2)):=hb0;have HP0:Hid (∀o1,P2 ((w.alloc o1).alloc (.cells #[.int .i64 0,.int .i64 0] 36)) (w.heap.size+1)):=λo1=>⟨by simp,by simp,by simp,by simp⟩;clear hO hI hG hb0;have HSO1:Hid (valsG O=true->∀w',Below w.heap.size w w'->Calls Tryz.prog 48 #[.agg #[.string O.name,.slice ip O.imps.length ic,.slice p O.globs.length cap]] w' λe w''=>e=.returned (.tuple #[.int .i64 x,.agg #[.int .i64 y,.int .i64 z]])∧Below w'.heap.size w' w''):=by
  intro hv;have:=HSO.out hv;rw[hD]at this;exact this
 have HBAD1:Hid (valsG O=false->Value.tuple #[.int .i64 x,.agg #[.int .i64 y,.int .i64 z]]=.tuple #[.int .i64 15,.agg #[.int .i64 0,.int .i64 0]]):=by
  intro hv;rw[<-hD];exact HBAD.out hv
 rw[hD];clear hD HSO HBAD;generalize valsG O=V at*;generalize O.imps.length=n1 at*;generalize O.globs.length=n2 at*;cases V
 ·have HBAD2:=hid (HBAD1.out rfl);clear HBAD1 HSO1;go_enter Tryz.func60,Tryz.ntmps60;go_wp2_with (first|(go_at_call 110;refine(HSH.out _ (HB0.out _ _)).mono ?_;rintro e w1 ⟨rfl,hb1⟩;have hp:=(HP0.out _).keep hb1;obtain⟨p0,p1,p2,p3⟩:=id hp;have HP1:Hid (P2 w1 (w.heap.size+1)):=hp;have HB1:Hid (Below w.heap.size w w1):=(HB0.out _ _).trans (hb1.mono (by simp;omega));clear hp))
  obtain⟨s0,s1⟩:=HP1.out.put (.int .i64 0) (.int .i64 0);refine bodyPost_ret (v:=.tuple #[.int .i64 15,.agg #[.int .i64 0,.int .i64 0]]) (by simp[results,Tryz.results60,go_sem,s0,s1]) rfl ?_;exact⟨ret_val HBAD2.out.symm,(HB1.out.setCell (by simp) _).setCell (by simp) _⟩
 ·have HSO2:=hid (HSO1.out rfl);clear HBAD1 HSO1;go_enter Tryz.func60,Tryz.ntmps60;go_wp2_with (first|(go_at_call 110;refine(HSH.out _ (HB0.out _ _)).mono ?_;rintro e w1 ⟨rfl,hb1⟩;have hp:=(HP0.out _).keep hb1;have HP1:Hid (P2 w1 (w.heap.size+1)):=hp;have HB1:Hid (Below w.heap.size w w1):=(HB0.out _ _).trans (hb1.mono (by simp;omega));have y0:=cell_keep hb1 (alloc_old _ _ _ _ _ (alloc_cell w _ _ 0 _ rfl));have y1:=cell_keep hb1 (alloc_old _ _ _ _ _ (alloc_cell w _ _ 1 _ rfl));have y2:=cell_keep hb1 (alloc_old _ _ _ _ _ (alloc_cell w _ _ 2 _ rfl));clear hp)|(go_at_call 48;refine(HSO2.out _ HB1.out).mono ?_;rintro e w2 ⟨rfl,hb2⟩;have hp:=HP1.out.keep hb2;obtain⟨p0,p1,p2,p3⟩:=id hp;have HP2:Hid (P2 w2 (w.heap.size+1)):=hp;have HB2:Hid (Below w.heap.size w w2):=HB1.out.trans (hb2.mono HB1.out.size);clear hp))
  obtain⟨s0,s1⟩:=HP2.out.put (.int .i64 y) (.int .i64 z);refine bodyPost_ret (v:=.tuple #[.int .i64 x,.agg #[.int .i64 y,.int .i64 z]]) (by simp[results,Tryz.results60,go_sem,s0,s1]) rfl ?_;exact⟨rfl,(HB2.out.setCell (by simp) _).setCell (by simp) _⟩
def errS(adr:Nat->Addr):Option (Nat×Nat×Nat)->Value
 |some (e,k,i)=>errF (adr (e+1)) (k:Int) (i:Int)
 |none=>.nilIface
theorem gBad_le{code:List LIns}{d0 most:Int}{e i:Nat}(h:gBad code d0 most=some (e,i)):e<=2:=by
 unfold gBad at h;split at h
 ·simp at h;omega
 ·split at h
  ·simp at h;omega
  ·split at h
   ·simp at h;omega
   ·split at h
    ·simp at h;omega
    ·cases h
def Looks(code:List LIns)(d0 most:Int)(r:Option (Nat×Nat)):Prop:=
 (∃k,firstBad (badIdx most) code=some k∧r=some (0,k))∨
 (firstBad (badIdx most) code=none∧((∃k:Nat,wildJ code=.tuple #[.int .i64 (k:Int),.bool true]∧r=some (1,k))∨
  (∃k:Int,wildJ code=.tuple #[.int .i64 k,.bool false]∧Fine code∧((∃k,firstBad (badD (depOf code d0)) code=some k∧r=some (2,k))∨(firstBad (badD (depOf code d0)) code=none∧r=none)))))
theorem looks_of{code:List LIns}(d0 most:Int)(hg:codeG code=true):Looks code d0 most (gBad code d0 most):=by
 cases h1:firstBad (badIdx most) code with
 |some k=>exact Or.inl ⟨k,h1,gBad_idx h1⟩
 |none=>
  refine Or.inr ⟨h1,?_⟩;have hw:=wildJ_eq hg;by_cases h0:code.length=0
  ·rw[if_pos h0]at hw;exact Or.inl ⟨0,hw,gBad_empty h1 h0⟩
  ·rw[if_neg h0]at hw;cases h2:firstBad (badNext code.length) code with
   |some k=>
    rw[h2]at hw;exact Or.inl ⟨k,hw,gBad_jump h1 h0 h2⟩
   |none=>
    rw[h2]at hw;refine Or.inr ⟨_,hw,(fine_of hg h0 h2).fine,?_⟩;cases h3:firstBad (badD (depOf code d0)) code with
    |some k=>exact Or.inl ⟨k,rfl,by unfold gBad;rw[h1];simp only;rw[if_neg h0,h2];simp only;rw[h3]⟩
    |none=>exact Or.inr ⟨rfl,by unfold gBad;rw[h1];simp only;rw[if_neg h0,h2];simp only;rw[h3]⟩
theorem objSound_any(adr:Nat->Addr)(nm:ByteArray)(iv gv:Value)(imps:List LImp)(globs:List LGlob)(w:World)(hI:ImpsAt w iv imps)(hG:GlobsAt w gv globs)(hg:GoodGs globs)(hT:TabAt w)(hS:SentAt w adr):
 Calls Tryz.prog 79 #[.agg #[.string nm,iv,gv]] w λe w'=>e=.returned (errS adr (sBad (imps.length+globs.length) globs 0))∧Below w.heap.size w w':=by
 obtain⟨ip,ic,rfl,hi1,-⟩:=hI.open;obtain⟨p,cap,rfl,hs1,hcell⟩:=hG.open;have HC:Hid (∀w',Below w.heap.size w w'->GlobsIn w' p globs):=hcell;have HG:Hid (GoodGs globs):=hg;have HT:Hid (TabAt w):=hT;have HS:Hid (SentAt w adr):=hS;clear hcell hG hg hI hT hS;go_enter Tryz.func79,Tryz.ntmps79;go_wp2;go_loopw [22] (λi wr=>∃k:Nat,k<=globs.length∧i=.int .i64 k∧Hid (sBad ((imps.length:Int)+(globs.length:Int)) globs 0=sBad ((imps.length:Int)+(globs.length:Int)) (globs.drop k) k)∧Hid (Below w.heap.size w wr)) (λi _=>globs.length-(intOf i).toNat)
 case atStart=>exact⟨0,Nat.zero_le _,rfl,rfl,(Below.refl _ _).alloc (Nat.le_refl _) _⟩
 case round=>
  obtain⟨k,hk,rfl,ha,hb⟩:=hrel;by_cases hlt:k<globs.length
  ·obtain⟨b,o,cp,cn,cc,rfl,c0,c1,c2,c3,hC,hsz⟩:=HC.out _ hb.out k hlt;obtain⟨g1,g2,g3⟩:=HG.out k hlt;have hL:=looks_of (globs[k].arity+1) ((imps.length:Int)+(globs.length:Int)) g1;have HSS:Hid (∀e i,gBad globs[k].code (globs[k].arity+1) ((imps.length:Int)+(globs.length:Int))=some (e,i)->sBad ((imps.length:Int)+(globs.length:Int)) globs 0=some (e,k,i)):=λe i h=>by rw[ha.out];exact sBad_some hlt h
   have HSN:Hid (gBad globs[k].code (globs[k].arity+1) ((imps.length:Int)+(globs.length:Int))=none->sBad ((imps.length:Int)+(globs.length:Int)) globs 0=sBad ((imps.length:Int)+(globs.length:Int)) (globs.drop (k+1)) (k+1)):=λh=>by rw[ha.out];exact sBad_next hlt h
   have HWI:Hid (∀w',Below wr.heap.size wr w'->Calls Tryz.prog 128 #[.slice cp cn cc,.int .i64 ((imps.length:Int)+(globs.length:Int))] w' λe w''=>e=.returned (pairOf (firstBad (badIdx ((imps.length:Int)+(globs.length:Int))) globs[k].code))∧Below w'.heap.size w' w''):=λw' hbw=>wildIndex_any _ _ _ w' (hC.keep hbw);have HWJ:Hid (∀w',Below wr.heap.size wr w'->Calls Tryz.prog 130 #[.slice cp cn cc] w' λe w''=>e=.returned (wildJ globs[k].code)∧Below w'.heap.size w' w''):=λw' hbw=>wildJump_any _ _ w' (hC.keep hbw);have HWD:Hid (Fine globs[k].code->∀w',Below wr.heap.size wr w'->Calls Tryz.prog 131 #[.slice cp cn cc,.int .i64 (globs[k].arity+1)] w' λe w''=>e=.returned (pairOf (firstBad (badD (depOf globs[k].code (globs[k].arity+1))) globs[k].code))∧Below w'.heap.size w' w''):=λhf w' hbw=>(wrongDepth_any _ _ _ w' (hC.keep hbw) (HT.out.keep (hb.out.trans (hbw.mono hb.out.size))) hf (by omega) (by omega)).mono λ_ _ ⟨⟨dep,hd,he⟩,h2⟩=>⟨by rw[depOf_eq hd];exact he,h2⟩;have hbs:=hb.out.size;rename World=>W2
   have HB0:Hid (∀ob,Below W2.heap.size W2 (W2.alloc ob)):=λob=>(Below.refl _ _).alloc (Nat.le_refl _) _;have HCL:Hid (∀w',Below W2.heap.size W2 w'->w'.cell? ⟨11,0,none⟩=some (.iface 577 (.pointer (some (adr 1))))∧w'.cell? ⟨12,0,none⟩=some (.iface 577 (.pointer (some (adr 2))))∧w'.cell? ⟨13,0,none⟩=some (.iface 577 (.pointer (some (adr 3))))):=λw' hbw=>by
    have h:=HS.out.keep (hb.out.trans (hbw.mono hbs));exact⟨h.c 1 (by omega),h.c 2 (by omega),h.c 3 (by omega)⟩
   clear hC g1 ha;generalize gBad globs[k].code (globs[k].arity+1) ((imps.length:Int)+(globs.length:Int))=r at*;generalize globs[k].code=code at*;generalize globs[k].name=gn at*;generalize globs[k].arity=ar at*;generalize globs[k].exp=gex at*;rcases hL with⟨j,h1,rfl⟩|⟨h1,⟨j,h2,rfl⟩|⟨j,h2,hf,h3⟩⟩
   ·have HR:=hid (HSS.out _ _ rfl);rw[h1]at HWI;go_wp2_with (first|(go_at_call 128;refine(HWI.out _ (HB0.out _)).mono ?_;rintro e w1 ⟨rfl,hb1⟩;have hb2:Below W2.heap.size W2 w1:=(HB0.out _).trans (hb1.mono (by simp));have y3:=cell_keep hb1 (alloc_cell W2 _ _ 3 _ rfl);have y1:=cell_keep hb1 (alloc_cell W2 _ _ 1 _ rfl);obtain⟨s1,s2,s3⟩:=HCL.out _ hb2;simp only[pairOf])|(go_at_call 129;refine(In_any _ _ _ _ _).mono ?_;rintro e w7 ⟨rfl,hb7⟩))
    go_ret;exact⟨ret_val (by rw[HR.out];rfl),(hb.out.trans (hb2.mono hbs)).trans (hb7.mono (by have:=hb2.size;omega))⟩
   ·have HR:=hid (HSS.out _ _ rfl);rw[h1]at HWI;rw[h2]at HWJ;go_wp2_with (first|(go_at_call 128;refine(HWI.out _ (HB0.out _)).mono ?_;rintro e w1 ⟨rfl,hb1⟩;have hb2:Below W2.heap.size W2 w1:=(HB0.out _).trans (hb1.mono (by simp));have y3:=cell_keep hb1 (alloc_cell W2 _ _ 3 _ rfl);have y1:=cell_keep hb1 (alloc_cell W2 _ _ 1 _ rfl);obtain⟨s1,s2,s3⟩:=HCL.out _ hb2;simp only[pairOf])|(go_at_call 130;refine(HWJ.out _ hb2).mono ?_;rintro e w3 ⟨rfl,hb3⟩;have hb4:Below W2.heap.size W2 w3:=hb2.trans (hb3.mono hb2.size);have y3:=cell_keep hb3 y3;have y1:=cell_keep hb3 y1;obtain⟨s1,s2,s3⟩:=HCL.out _ hb4)|(go_at_call 129;refine(In_any _ _ _ _ _).mono ?_;rintro e w7 ⟨rfl,hb7⟩))
    go_ret;exact⟨ret_val (by rw[HR.out];rfl),(hb.out.trans (hb4.mono hbs)).trans (hb7.mono (by have:=hb4.size;omega))⟩
   ·have HWD2:=hid (HWD.out hf);rw[h1]at HWI;rw[h2]at HWJ;clear HWD hf h1 h2;rcases h3 with⟨j3,h3,rfl⟩|⟨h3,rfl⟩
    ·have HR:=hid (HSS.out _ _ rfl);rw[h3]at HWD2;go_wp2_with (first|(go_at_call 128;refine(HWI.out _ (HB0.out _)).mono ?_;rintro e w1 ⟨rfl,hb1⟩;have hb2:Below W2.heap.size W2 w1:=(HB0.out _).trans (hb1.mono (by simp));have y3:=cell_keep hb1 (alloc_cell W2 _ _ 3 _ rfl);have y1:=cell_keep hb1 (alloc_cell W2 _ _ 1 _ rfl);obtain⟨s1,s2,s3⟩:=HCL.out _ hb2;simp only[pairOf])|(go_at_call 130;refine(HWJ.out _ hb2).mono ?_;rintro e w3 ⟨rfl,hb3⟩;have hb4:Below W2.heap.size W2 w3:=hb2.trans (hb3.mono hb2.size);have y3:=cell_keep hb3 y3;have y1:=cell_keep hb3 y1;obtain⟨s1,s2,s3⟩:=HCL.out _ hb4)|(go_at_call 131;refine(HWD2.out _ hb4).mono ?_;rintro e w5 ⟨rfl,hb5⟩;have hb6:Below W2.heap.size W2 w5:=hb4.trans (hb5.mono hb4.size);obtain⟨s1,s2,s3⟩:=HCL.out _ hb6;simp only[pairOf])|(go_at_call 129;refine(In_any _ _ _ _ _).mono ?_;rintro e w7 ⟨rfl,hb7⟩))
     go_ret;exact⟨ret_val (by rw[HR.out];rfl),(hb.out.trans (hb6.mono hbs)).trans (hb7.mono (by have:=hb6.size;omega))⟩
    ·have HR:=hid (HSN.out rfl);rw[h3]at HWD2;go_wp2_with (first|(go_at_call 128;refine(HWI.out _ (HB0.out _)).mono ?_;rintro e w1 ⟨rfl,hb1⟩;have hb2:Below W2.heap.size W2 w1:=(HB0.out _).trans (hb1.mono (by simp));have y3:=cell_keep hb1 (alloc_cell W2 _ _ 3 _ rfl);have y1:=cell_keep hb1 (alloc_cell W2 _ _ 1 _ rfl);obtain⟨s1,s2,s3⟩:=HCL.out _ hb2;simp only[pairOf])|(go_at_call 130;refine(HWJ.out _ hb2).mono ?_;rintro e w3 ⟨rfl,hb3⟩;have hb4:Below W2.heap.size W2 w3:=hb2.trans (hb3.mono hb2.size);have y3:=cell_keep hb3 y3;have y1:=cell_keep hb3 y1;obtain⟨s1,s2,s3⟩:=HCL.out _ hb4)|(go_at_call 131;refine(HWD2.out _ hb4).mono ?_;rintro e w5 ⟨rfl,hb5⟩;have hb6:Below W2.heap.size W2 w5:=hb4.trans (hb5.mono hb4.size);obtain⟨s1,s2,s3⟩:=HCL.out _ hb6;simp only[pairOf]))
     exact⟨⟨k+1,by omega,by go_num,HR,hb.out.trans (hb6.mono hbs)⟩,by simp[intOf];omega⟩
  ·go_wp2;go_ret;exact⟨ret_val (by rw[ha.out,List.drop_of_length_le (by omega)];rfl),hb.out⟩
theorem sBad_le{most:Int}{e k i:Nat}:∀(l:List LGlob) (j:Nat),sBad most l j=some (e,k,i)->e<=2
 |[],_,h=>by simp[sBad]at h
 |g::r,j,h=>by
  rw[sBad]at h;split at h
  ·rename_i e' i' hb
   have:=gBad_le hb;simp at h;omega
  ·exact sBad_le r (j+1) h
theorem kCode_next{e:Nat}(h:e<=2):kCode (e+1)=12+(e:Int):=by
 rcases(show e=0∨e=1∨e=2 by omega) with rfl|rfl|rfl<;>rfl
structure Told (w:World) (v:Value) (c x y:Int):Prop where
 kind:∀w',Below w.heap.size w w'->Calls Tryz.prog 45 #[v] w' λe w''=>e=.returned (.int .i64 c)∧Below w'.heap.size w' w''
 place:∀w',Below w.heap.size w w'->Calls Tryz.prog 46 #[v] w' λe w''=>e=.returned (.agg #[.int .i64 x,.int .i64 y])∧Below w'.heap.size w' w''
theorem told_nil(w:World):Told w .nilIface 0 0 0:=⟨λw' _=>(kind_nil w').mono λ_ _ ⟨h1,h2⟩=>⟨h1,by rw[h2];exact Below.refl _ _⟩,λw' _=>place_nil w'⟩
theorem told_plain{w:World}{adr:Nat->Addr}(hS:SentAt w adr)(i:Nat)(hi:0<=i∧i<19):Told w (errE (adr i)) (kCode i) 0 0:=⟨λ_ hb=>kind_plain (hS.keep hb) i hi,λ_ hb=>place_plain (hS.keep hb) (adr i)⟩
theorem told_fault{w:World}{adr:Nat->Addr}(hS:SentAt w adr)(i:Nat)(hi:0<=i∧i<19)(k n:Int):Told w (errF (adr i) k n) (kCode i) k n:=⟨λ_ hb=>kind_fault (hS.keep hb) i hi k n,λ_ hb=>place_fault (hS.keep hb) (adr i) k n⟩
noncomputable def errC(adr:Nat->Addr)(O:LObj):Value:=if valsG O then errS adr (sBad (O.imps.length+O.globs.length) O.globs 0) else errE (adr 0)
theorem objCheck_any(O:LObj)(v:Value)(w:World)(adr:Nat->Addr)(hO:ObjAt w v O)(hT:TabAt w)(hS:SentAt w adr):
 Calls Tryz.prog 71 #[v] w λe w'=>e=.returned (errC adr O)∧Below w.heap.size w w':=by
 have HVA:Hid (∀w',Below w.heap.size w w'->Calls Tryz.prog 119 #[v] w' λe w''=>e=.returned (errV (valsG O) (errE (adr 0)))∧Below w'.heap.size w' w''):=λw' hb=>Values_any O v (errE (adr 0)) w' (hO.keep hb) (hT.keep hb) ((hS.keep hb).c 0 (by omega)) ⟨_,_,rfl⟩;obtain⟨iv,gv,rfl,hsz,hI,hG⟩:=id hO;obtain⟨ip,ic,rfl,hi1,-⟩:=hI.open;obtain⟨p,cap,rfl,hs1,-⟩:=hG.open;have HB0:Hid (∀o,Below w.heap.size w (w.alloc o)):=λo=>(Below.refl _ _).alloc (Nat.le_refl _) _;cases hv:valsG O
 ·have HV2:Hid (∀w',Below w.heap.size w w'->Calls Tryz.prog 119 #[.agg #[.string O.name,.slice ip O.imps.length ic,.slice p O.globs.length cap]] w' λe w''=>e=.returned (.iface 577 (.pointer (some (adr 0))))∧Below w'.heap.size w' w''):=by
   have:=HVA.out;rw[hv]at this;exact this
  have HD:Hid (errC adr O=.iface 577 (.pointer (some (adr 0)))):=by show _=_;unfold errC;rw[hv];rfl
  clear hO hT hS hI hG HVA hv;generalize O.imps.length=n1 at*;generalize O.globs.length=n2 at*;go_enter Tryz.func71,Tryz.ntmps71;go_wp2_with (first|(go_at_call 119;refine(HV2.out _ (HB0.out _)).mono ?_;rintro e w1 ⟨rfl,hb1⟩))
  go_ret;exact⟨ret_val HD.out.symm,(HB0.out _).trans (hb1.mono (by simp))⟩
 ·have HV2:Hid (∀w',Below w.heap.size w w'->Calls Tryz.prog 119 #[.agg #[.string O.name,.slice ip O.imps.length ic,.slice p O.globs.length cap]] w' λe w''=>e=.returned .nilIface∧Below w'.heap.size w' w''):=by
   have:=HVA.out;rw[hv]at this;exact this
  have HOS:Hid (∀w',Below w.heap.size w w'->Calls Tryz.prog 79 #[.agg #[.string O.name,.slice ip O.imps.length ic,.slice p O.globs.length cap]] w' λe w''=>e=.returned (errC adr O)∧Below w'.heap.size w' w''):=by
   intro w' hb;have hg:GoodGs O.globs:=by
    have hv':=hv;simp only[valsG,Bool.and_eq_true]at hv';exact goodGs_of _ _ _ hv'.2
   have hc:errC adr O=errS adr (sBad (O.imps.length+O.globs.length) O.globs 0):=by unfold errC;rw[hv];rfl
   rw[hc];exact objSound_any adr O.name _ _ O.imps O.globs w' (hI.keep hb) (hG.keep hb) hg (hT.keep hb) (hS.keep hb)
  clear hO hT hS hI hG HVA hv;generalize O.imps.length=n1 at*;generalize O.globs.length=n2 at*;generalize errC adr O=r at*;go_enter Tryz.func71,Tryz.ntmps71;go_wp2_with (first|(go_at_call 119;refine(HV2.out _ (HB0.out _)).mono ?_;rintro e w1 ⟨rfl,hb0⟩;have hb1:Below w.heap.size w w1:=(HB0.out _).trans (hb0.mono (by simp));have y0:=cell_keep hb0 (alloc_cell w _ _ 0 _ rfl);have y1:=cell_keep hb0 (alloc_cell w _ _ 1 _ rfl);have y2:=cell_keep hb0 (alloc_cell w _ _ 2 _ rfl))|(go_at_call 79;refine(HOS.out _ hb1).mono ?_;rintro e w3 ⟨rfl,hb3⟩))
  go_ret;exact⟨rfl,hb1.trans (hb3.mono hb1.size)⟩
theorem tarnSound_told(O:LObj)(v r:Value)(c x y:Int)(w:World)(hO:ObjAt w v O)(hC:∀w',Below w.heap.size w w'->Calls Tryz.prog 71 #[v] w' λe w''=>e=.returned r∧Below w'.heap.size w' w'')(hT:Told w r c x y):
 Calls Tryz.prog 36 #[v] w λe w'=>e=.returned (.tuple #[.int .i64 c,.agg #[.int .i64 x,.int .i64 y]])∧Below w.heap.size w w':=by
 obtain⟨iv,gv,rfl,hsz,hI,hG⟩:=id hO;obtain⟨ip,ic,rfl,hi1,-⟩:=hI.open;obtain⟨p,cap,rfl,hs1,-⟩:=hG.open;have HC:Hid (∀w',Below w.heap.size w w'->Calls Tryz.prog 71 #[.agg #[.string O.name,.slice ip O.imps.length ic,.slice p O.globs.length cap]] w' λe w''=>e=.returned r∧Below w'.heap.size w' w''):=hC;have HT0:Hid (Told w r c x y):=hT;clear hC hT hO hI hG;generalize O.imps.length=n1 at*;generalize O.globs.length=n2 at*;have HB0:Hid (∀o1 o2,Below w.heap.size w ((w.alloc o1).alloc o2)):=λo1 o2=>((Below.refl _ _).alloc (Nat.le_refl _) _).alloc (by simp) _;have HP0:Hid (∀o1,P2 ((w.alloc o1).alloc (.cells #[.int .i64 0,.int .i64 0] 36)) (w.heap.size+1)):=λo1=>⟨by simp,by simp,by simp,by simp⟩;go_enter Tryz.func36,Tryz.ntmps36;go_wp2_with (first
  |(go_at_call 71;refine(HC.out _ (HB0.out _ _)).mono ?_;rintro e w1 ⟨rfl,hb1⟩;have hp1:=(HP0.out _).keep hb1;have hb2:Below w.heap.size w w1:=(HB0.out _ _).trans (hb1.mono (by simp;omega)))
  |(go_at_call 45;refine(HT0.out.kind _ hb2).mono ?_;rintro e w3 ⟨rfl,hb3⟩;have hp3:=hp1.keep hb3;have hb4:Below w.heap.size w w3:=hb2.trans (hb3.mono hb2.size))
  |(go_at_call 46;refine(HT0.out.place _ hb4).mono ?_;rintro e w5 ⟨rfl,hb5⟩;have hp5:=hp3.keep hb5;have HP5:Hid (P2 w5 (w.heap.size+1)):=hp5;have HB6:Hid (Below w.heap.size w w5):=hb4.trans (hb5.mono hb4.size);obtain⟨p0,p1,p2,p3⟩:=hp5))
 obtain⟨s0,s1⟩:=HP5.out.put (.int .i64 x) (.int .i64 y);refine bodyPost_ret (v:=.tuple #[.int .i64 c,.agg #[.int .i64 x,.int .i64 y]]) (by simp[results,Tryz.results36,go_sem,s0,s1]) rfl ?_;exact⟨rfl,(HB6.out.setCell (by simp) _).setCell (by simp) _⟩
theorem tarnSound_any(O:LObj)(v:Value)(w:World)(adr:Nat->Addr)(hO:ObjAt w v O)(hT:TabAt w)(hS:SentAt w adr):
 Calls Tryz.prog 36 #[v] w λe w'=>e=.returned (docS O)∧Below w.heap.size w w':=by
 have hC:∀w',Below w.heap.size w w'->Calls Tryz.prog 71 #[v] w' λe w''=>e=.returned (errC adr O)∧Below w'.heap.size w' w'':=λw' hb=>objCheck_any O v w' adr (hO.keep hb) (hT.keep hb) (hS.keep hb);cases hv:valsG O
 ·have h1:errC adr O=errE (adr 0):=by unfold errC;rw[hv];rfl
  have h2:docS O=.tuple #[.int .i64 15,.agg #[.int .i64 0,.int .i64 0]]:=by unfold docS;rw[hv];rfl
  rw[h2];rw[h1]at hC;exact tarnSound_told O v _ 15 0 0 w hO hC (told_plain hS 0 (by omega))
 ·have h1:errC adr O=errS adr (sBad (O.imps.length+O.globs.length) O.globs 0):=by unfold errC;rw[hv];rfl
  rw[h1]at hC;cases hsb:sBad (O.imps.length+O.globs.length) O.globs 0 with
  |none=>
   have h2:docS O=.tuple #[.int .i64 0,.agg #[.int .i64 0,.int .i64 0]]:=by unfold docS;rw[hv,hsb];rfl
   rw[h2];rw[hsb]at hC;exact tarnSound_told O v _ 0 0 0 w hO hC (told_nil w)
  |some r=>
   obtain⟨e,k,i⟩:=r;have he:=sBad_le _ _ hsb;have h2:docS O=.tuple #[.int .i64 (12+(e:Int)),.agg #[.int .i64 (k:Int),.int .i64 (i:Int)]]:=by unfold docS;rw[hv,hsb];rfl
   rw[h2];rw[hsb]at hC;refine tarnSound_told O v _ _ _ _ w hO hC ?_;rw[<-kCode_next he];exact told_fault hS (e+1) (by omega) _ _
end Go.Proofs.YtdpodpjdcfjfgaaGreatDoor
namespace Go.Proofs.YtdpodpjdcfjfgaaGreatDoor
open Go.RowKit
theorem At_any(t:TypeId)(x:Value)(n:Int)(w:World):Calls Tryz.prog 76 #[.iface t x,.int .i64 n] w λe w'=>e=.returned (.iface 195 (.agg #[.iface t x,.int .i64 0,.int .i64 n]))∧w'=w:=by
 go_enter Tryz.func76,Tryz.ntmps76;go_wp2;go_ret;exact⟨rfl,rfl⟩
end Go.Proofs.YtdpodpjdcfjfgaaGreatDoor
namespace Go.Proofs.YtdpodpjdcfjfgaaGreatDoor
open Go.RowKit Go.Sort
theorem errC_ok{adr:Nat->Addr}{O:LObj}(h:okO O=true):errC adr O=.nilIface:=by
 unfold okO at h;rw[Bool.and_eq_true]at h;unfold errC;rw[if_pos h.1];cases hs:sBad (O.imps.length+O.globs.length) O.globs 0 with
 |none=>rfl
 |some r=>rw[hs]at h;simp at h
theorem errC_bad{adr:Nat->Addr}{O:LObj}(h:okO O=false):∃t x,errC adr O=.iface t x:=by
 unfold okO at h;unfold errC;cases hv:valsG O with
 |false=>exact⟨_,_,rfl⟩
 |true=>
  rw[hv]at h;cases hs:sBad (O.imps.length+O.globs.length) O.globs 0 with
  |none=>rw[hs]at h;simp at h
  |some r=>obtain⟨e,k,i⟩:=r;exact⟨_,_,rfl⟩
def errK(adr:Nat->Addr)(i:Nat):Option Nat->Value
 |some k=>errF (adr i) 0 (k:Int)
 |none=>.nilIface
theorem ObjsIn.cells{w:World}{p:Option Addr}{l:List LObj}(h:ObjsIn w p l){k:Nat}(hk:k<l.length):∃b o ip ic gp gc,p=some ⟨b,o,none⟩∧w.cell? ⟨b,o+k*3,none⟩=some (.string l[k].name)∧w.cell? ⟨b,o+k*3+1,none⟩=some (.slice ip l[k].imps.length ic)∧w.cell? ⟨b,o+k*3+2,none⟩=some (.slice gp l[k].globs.length gc)∧ObjAt w (.agg #[.string l[k].name,.slice ip l[k].imps.length ic,.slice gp l[k].globs.length gc]) l[k]:=h k hk
theorem unsound_any(Os:List LObj)(v:Value)(w:World)(adr:Nat->Addr)(h:ObjsAt w v Os)(hT:TabAt w)(hS:SentAt w adr):
 Calls Tryz.prog 105 #[v] w λe w'=>e=.returned (errK adr 0 (fstF (λ_ O=>!okO O) Os 0))∧Below w.heap.size w w':=by
 obtain⟨p,cap,rfl,hs,hI⟩:=h;have HI:Hid (∀w',Below w.heap.size w w'->ObjsIn w' p Os):=λw' hb=>hI.keep hb;have HT:=hid hT;have HS0:=hid hS;unfold short at hs;clear hI hT hS;go_enter Tryz.func105,Tryz.ntmps105;go_wp2;go_loopw [7] (λkv wr=>∃k:Nat,k<=Os.length∧kv=.int .i64 (k:Int)∧Hid (fstF (λ_ O=>!okO O) Os 0=fstF (λ_ O=>!okO O) (Os.drop k) k∧Below w.heap.size w wr)) (λkv _=>Os.length-(intOf kv).toNat)
 case atStart=>exact⟨0,Nat.zero_le _,rfl,rfl,Below.refl _ _⟩
 case round=>
  obtain⟨k,hk,rfl,HS⟩:=hrel;rename World=>wr
  by_cases hlt:k<Os.length
  ·have h0:(0:Int)<=(k:Int):=by omega
   have h1:(k:Int)<(Os.length:Int):=by omega
   have HE:=hid (HS.out.1.trans (fstF_at _ Os hlt));have HB:=hid HS.out.2;obtain⟨b,o,ip,ic,gp,gc,rfl,c0,c1,c2,hO⟩:=(HI.out _ HS.out.2).cells hlt;have hbz:=HB.out.size;have HC:=hid (λob=>objCheck_any Os[k] _ (wr.alloc ob) adr (hO.keep ((Below.refl _ _).alloc (Nat.le_refl _) _)) (HT.out.keep (HB.out.alloc hbz _)) (HS0.out.keep (HB.out.alloc hbz _)));clear hO HS;cases hok:okO Os[k]with
   |true=>
    have HE2:Hid (fstF (λ_ O=>!okO O) Os 0=fstF (λ_ O=>!okO O) (Os.drop (k+1)) (k+1)):=by show _=_;rw[HE.out,hok];rfl
    rw[errC_ok hok]at HC;clear HE hok;go_wp2_with (first
     |(go_at_call 71;refine(HC.out _).mono ?_;rintro e w1 ⟨rfl,hb1⟩;have HB1:=hid ((HB.out.alloc hbz _).trans (hb1.mono (by simp;omega)));clear hb1))
    go_roundw
    case rel=>exact⟨k+1,by omega,by go_num,HE2.out,HB1.out⟩
    case measure=>simp[intOf];omega
   |false=>
    have HE2:Hid (fstF (λ_ O=>!okO O) Os 0=some k):=by show _=_;rw[HE.out,hok];rfl
    obtain⟨et,ex,he⟩:=errC_bad (adr:=adr) hok;rw[he]at HC;clear HE hok he;have HV:=hid (λw1 (hb:Below w.heap.size w w1)=>(HS0.out.keep hb).c 0 (by omega));simp only[errE]at HV;go_wp2_with (first
     |(go_at_call 71;refine(HC.out _).mono ?_;rintro e w1 ⟨rfl,hb1⟩;have HB1:=hid ((HB.out.alloc hbz _).trans (hb1.mono (by simp;omega)));have hcv:w1.cell? ⟨19,0,none⟩=_:=HV.out _ HB1.out;clear hb1)
     |(go_at_call 76;refine(At_any _ _ _ _).mono ?_;rintro e w2 ⟨rfl,rfl⟩))
    go_ret;exact⟨ret_val (by rw[HE2.out];rfl),HB1.out⟩
  ·obtain rfl:k=Os.length:=by omega
   have hge:¬(Os.length:Int)<(Os.length:Int):=by omega
   go_wp2;go_ret;exact⟨ret_val (by rw[HS.out.1,fstF_end _ _ (Nat.le_refl _)];rfl),HS.out.2⟩
def szG(l:List LGlob)(j:Nat):Nat:=((l.take j).map λg=>g.code.length).sum
def szO(Os:List LObj)(k:Nat):Nat:=((Os.take k).map sz1).sum
theorem szG_succ{l:List LGlob}{j:Nat}(hj:j<l.length):szG l (j+1)=szG l j+l[j].code.length:=by
 unfold szG;rw[List.take_succ_eq_append_getElem hj,List.map_append,List.sum_append];simp
theorem szO_succ{Os:List LObj}{k:Nat}(hk:k<Os.length):szO Os (k+1)=szO Os k+sz1 Os[k]:=by
 unfold szO;rw[List.take_succ_eq_append_getElem hk,List.map_append,List.sum_append];simp
theorem szG_all(l:List LGlob):szG l l.length=(l.map λg=>g.code.length).sum:=by unfold szG;rw[List.take_length]
theorem szO_all(Os:List LObj):szO Os Os.length=sz Os:=by unfold szO sz;rw[List.take_length]
def Shrt(Os:List LObj):Prop:=∀O∈Os,∀g∈O.globs,g.code.length<=65536
theorem szG_le{l:List LGlob}(h:∀g∈l,g.code.length<=65536):∀j,j<=l.length->szG l j<=j*65536
 |0,_=>by simp[szG]
 |j+1,hj=>by
  have:=szG_le h j (by omega);have:=h l[j] (List.getElem_mem _);rw[szG_succ (by omega)];omega
theorem szO_le{Os:List LObj}(hF:Few Os)(h:Shrt Os):∀k,k<=Os.length->szO Os k<=k*200000000000000000
 |0,_=>by simp[szO]
 |k+1,hk=>by
  have h1:=szO_le hF h k (by omega);have h2:=szG_le (h Os[k] (List.getElem_mem _)) _ (Nat.le_refl _);rw[szG_all]at h2;have h3:=(hF.g Os[k] (List.getElem_mem _)).1;rw[szO_succ (by omega)];unfold sz1;omega
theorem instructions_any(Os:List LObj)(v:Value)(w:World)(h:ObjsAt w v Os)(hF:Few Os)(hS:Shrt Os):
 Calls Tryz.prog 108 #[v] w λe w'=>e=.returned (.int .i64 (sz Os:Int))∧Below w.heap.size w w':=by
 obtain⟨p,cap,rfl,hs,hI⟩:=h;have HI:Hid (∀w',Below w.heap.size w w'->ObjsIn w' p Os):=λw' hb=>hI.keep hb;have HF:=hid hF;have HH:=hid hS;have hn8:=hF.n;clear hI hS hF hs;go_enter Tryz.func108,Tryz.ntmps108;go_wp2;go_loopw [3,10] (λnv kv wr=>∃k:Nat,k<=Os.length∧nv=.int .i64 (szO Os k:Int)∧kv=.int .i64 (k:Int)∧Hid (Below w.heap.size w wr)) (λ_ kv _=>Os.length-(intOf kv).toNat)
 case atStart=>exact⟨0,Nat.zero_le _,rfl,rfl,Below.refl _ _⟩
 case round=>
  obtain⟨k,hk,rfl,rfl,HS⟩:=hrel;rename World=>wr
  by_cases hlt:k<Os.length
  ·have h0:(0:Int)<=(k:Int):=by omega
   have h1:(k:Int)<(Os.length:Int):=by omega
   obtain⟨b,o,ip,ic,gp,gc,rfl,c0,c1,c2,hO⟩:=(HI.out _ HS.out).cells hlt;obtain⟨gp',gc',e,hgl,hgi⟩:=hO.globs.2.open;cases e;have HGI:=hid hgi;have hbs:=szO_le HF.out HH.out k (by omega);have hgn:=(HF.out.g Os[k] (List.getElem_mem _)).1;have HZ:=hid (szO_succ hlt);obtain⟨m,hm⟩:∃m,szO Os k=m:=⟨_,rfl⟩;rw[hm]at hbs HZ ⊢;have HGL:=hid (HH.out Os[k] (List.getElem_mem _));clear hgi hO hm;go_wp2;go_loopw [3,17] (λnv jv wx=>∃j:Nat,j<=Os[k].globs.length∧nv=.int .i64 ((m+szG Os[k].globs j:Nat):Int)∧jv=.int .i64 (j:Int)∧Hid (Below wr.heap.size wr wx)) (λ_ jv _=>Os[k].globs.length-(intOf jv).toNat)
   case atStart=>exact⟨0,Nat.zero_le _,rfl,rfl,(Below.refl _ _).alloc (Nat.le_refl _) _⟩
   case round=>
    obtain⟨j,hj,rfl,rfl,HX⟩:=hrel;rename World=>wx
    by_cases hjt:j<Os[k].globs.length
    ·have j0:(0:Int)<=(j:Int):=by omega
     have j1:(j:Int)<(Os[k].globs.length:Int):=by omega
     obtain⟨gb,go,cp,cn,cc,rfl,g0,g1,g2,g3,hC,-⟩:=HGI.out _ HX.out j hjt;obtain⟨cp',cc',e,hcl,-⟩:=hC.open;cases e;have hz:=szG_le HGL.out j (by omega);have hz2:=szG_succ hjt;have HZ2:=hid hz2;generalize szG Os[k].globs j=q at*;generalize Os[k].globs[j].code.length=cl at*;generalize Os[k].globs[j].name=gnm at*;generalize Os[k].globs[j].arity=gar at*;generalize Os[k].globs[j].exp=gex at*;clear hz2 hC;go_wp2;go_roundw
     case rel=>exact⟨j+1,by omega,by rw[HZ2.out];go_num,by go_num,HX.out.alloc HX.out.size _⟩
     case measure=>simp[intOf];omega
    ·obtain rfl:j=Os[k].globs.length:=by omega
     have hge:¬(Os[k].globs.length:Int)<(Os[k].globs.length:Int):=by omega
     go_wp2;go_roundw
     case rel=>exact⟨k+1,by omega,by rw[HZ.out,szG_all];rfl,by go_num,HS.out.trans (HX.out.mono HS.out.size)⟩
     case measure=>simp[intOf];omega
  ·obtain rfl:k=Os.length:=by omega
   have hge:¬(Os.length:Int)<(Os.length:Int):=by omega
   go_wp2;go_ret;exact⟨ret_val (by rw[szO_all];rfl),HS.out⟩
theorem xm_put{w:World}{b n:Nat}{f:ByteArray->Option (Nat×Int)}{D:DataW Unit}(hD:w.ownsMap Tryz.prog 9 xmR b n D)(hf:∀t:ByteArray,Maps.has D (keyL t)=(f t).isSome∧D.atKey (keyL t) (xmD none)=xmD (f t))(t:ByteArray)(m:Nat)(a:Int)(n2:Nat)(w2:World)(h2:w2.ownsMap Tryz.prog 9 xmR b n2 (D.put (keyL t) (xmD (some (m,a))))):XM w2 b n2 λs=>if s=t then some (m,a) else f s:=by
 refine⟨_,h2,λs=>?_⟩;dsimp only;by_cases e:s=t
 ·subst e;rw[if_pos rfl];exact⟨Maps.has_put_same hD.isMap (k:=keyL s) trivial _,Maps.atKey_put_same hD.isMap (k:=keyL s) trivial _ _⟩
 ·rw[if_neg e];have hk:keyL s≠keyL t:=λh=>e (keyL_inj h);rw[Maps.has_put_other hk,Maps.atKey_put_other hk];exact hf s
theorem XM.mono{w:World}{b n n':Nat}{f:ByteArray->Option (Nat×Int)}(h:XM w b n f)(hn:n<=n'):XM w b n' f:=by
 obtain⟨D,hD,hf⟩:=h;exact⟨D,hD.mono hn,hf⟩
theorem exKJ_same{Os:List LObj}{k:Nat}{gl:List LGlob}{j:Nat}(hj:j<gl.length)(h:gl[j].exp=false∨(exKJ Os k gl j gl[j].name).isSome=true)(t:ByteArray):exKJ Os k gl j t=exKJ Os k gl (j+1) t:=by
 rw[exKJ_succ t hj];cases hx:exKJ Os k gl j t with
 |some x=>rfl
 |none=>
  rcases h with h|h
  ·rw[h];rfl
  ·by_cases e:gl[j].name=t
   ·rw[e,hx]at h;cases h
   ·simp[e]
theorem exKJ_put{Os:List LObj}{k:Nat}{gl:List LGlob}{j:Nat}(hj:j<gl.length)(he:gl[j].exp=true)(h:exKJ Os k gl j gl[j].name=none)(t:ByteArray):(if t=gl[j].name then some (gBase Os k+j,gl[j].arity) else exKJ Os k gl j t)=exKJ Os k gl (j+1) t:=by
 rw[exKJ_succ t hj];by_cases e:t=gl[j].name
 ·subst e;rw[if_pos rfl,h,he];simp
 ·rw[if_neg e];cases exKJ Os k gl j t with
  |some x=>rfl
  |none=>simp[Ne.symm e]
def ExpRes(adr:Nat->Addr)(Os:List LObj)(w:World)(e:Ending)(w':World):Prop:=Below w.heap.size w w'∧match fstF (dpB Os) Os 0 with
 |some k=>e=.returned (.tuple #[.map none,errF (adr 14) 0 (k:Int)])
 |none=>∃b n,e=.returned (.tuple #[.map (some b),.nilIface])∧XM w' b n (exK Os Os.length)
structure EoS (Os:List LObj) (w wr:World) (k:Nat):Prop where
 low:Below w.heap.size w wr
 m:XM wr w.heap.size (gBase Os k) (exK Os k)
 f:fstF (dpB Os) Os 0=fstF (dpB Os) (Os.drop k) k
structure EiS (Os:List LObj) (w wr:World) (k:Nat) (gl:List LGlob) (j:Nat):Prop where
 low:Below w.heap.size w wr
 m:XM wr w.heap.size (gBase Os k+j) (exKJ Os k gl j)
 f:fstF (dpJ Os k gl) gl 0=fstF (dpJ Os k gl) (gl.drop j) j
theorem exportsOf_any(Os:List LObj)(v:Value)(w:World)(adr:Nat->Addr)(h:ObjsAt w v Os)(hF:Few Os)(hS:SentAt w adr):
 Calls Tryz.prog 106 #[v] w λe w'=>ExpRes adr Os w e w':=by
 obtain⟨p,cap,rfl,hs,hI⟩:=h;have HI:Hid (∀w',Below w.heap.size w w'->ObjsIn w' p Os):=λw' hb=>hI.keep hb;have HF:=hid hF;have hn8:=hF.n;have HSE:=hid hS;have HZ:=hid (Tryz.zeroX);have hmm:=@run_makeMap Tryz.prog;clear hI hF hs hS;go_enter Tryz.func106,Tryz.ntmps106;go_wp2;go_loopw [5,15] (λnv kv wr=>∃k:Nat,k<=Os.length∧nv=.int .i64 (gBase Os k:Int)∧kv=.int .i64 (k:Int)∧Hid (EoS Os w wr k)) (λ_ kv _=>Os.length-(intOf kv).toNat)
 case atStart=>exact⟨0,Nat.zero_le _,rfl,rfl,(Below.refl _ _).alloc (Nat.le_refl _) _,(XM.new w).congr λ_=>rfl,rfl⟩
 case round=>
  obtain⟨k,hk,rfl,rfl,HS⟩:=hrel;rename World=>wr
  by_cases hlt:k<Os.length
  ·have h0:(0:Int)<=(k:Int):=by omega
   have h1:(k:Int)<(Os.length:Int):=by omega
   obtain⟨b,o,ip,ic,gp,gc,rfl,c0,c1,c2,hO⟩:=(HI.out _ (Below.refl _ _)).cells hlt;replace c0:=cell_keep HS.out.low c0
   replace c1:=cell_keep HS.out.low c1
   replace c2:=cell_keep HS.out.low c2
   obtain⟨gp',gc',e,hgl,hgi⟩:=hO.globs.2.open;cases e;have HGI:=hid hgi;have hbm:=HF.out.base k (by omega);have hgn:=(HF.out.g Os[k] (List.getElem_mem _)).1;obtain⟨m,hm⟩:∃m,gBase Os k=m:=⟨_,rfl⟩;have HM:=hid hm;have HFK:=hid (HS.out.f.trans (fstF_at (dpB Os) Os hlt));have HGS:=hid (gBase_succ hlt);have HEND:=hid (exKJ_end hlt);rw[hm]at hbm ⊢;clear hgi hO hm;have HE0:Hid (EiS Os w (wr.alloc (.cells #[.string Os[k].name,.slice ip Os[k].imps.length ic,.slice gp Os[k].globs.length gc] 33)) k Os[k].globs 0):=by
    have hb:Below wr.heap.size wr (wr.alloc (.cells #[.string Os[k].name,.slice ip Os[k].imps.length ic,.slice gp Os[k].globs.length gc] 33)):=(Below.refl _ _).alloc (Nat.le_refl _) _;refine⟨HS.out.low.trans (hb.mono HS.out.low.size),(HS.out.m.keep hb).congr λt=>?_,rfl⟩;unfold exKJ;cases exK Os k t<;>rfl
   generalize hgl2:Os[k].globs=gl at*;generalize Os[k].name=onm at*;generalize Os[k].imps=oim at*;have HGL:=hid hgl2;clear hgl2;go_wp2;go_loopw [5,23] (λnv jv wx=>∃j:Nat,j<=gl.length∧nv=.int .i64 ((m+j:Nat):Int)∧jv=.int .i64 (j:Int)∧Hid (EiS Os w wx k gl j)) (λ_ jv _=>gl.length-(intOf jv).toNat)
   case atStart=>exact⟨0,Nat.zero_le _,rfl,rfl,HE0.out⟩
   case round=>
    clear HE0;obtain⟨j,hj,rfl,rfl,HX⟩:=hrel;rename World=>wx
    by_cases hjt:j<gl.length
    ·have j0:(0:Int)<=(j:Int):=by omega
     have j1:(j:Int)<(gl.length:Int):=by omega
     obtain⟨gb,go,cp,cn,cc,rfl,g0,g1,g2,g3,-,hnl⟩:=HGI.out _ HX.out.low j hjt;have hlk:=λob=>(HX.out.m.keep ((Below.refl _ _).alloc (Nat.le_refl _) ob)).look gl[j].name hnl;have HFJ:=hid (HX.out.f.trans (fstF_at (dpJ Os k gl) gl hjt));have hzx:=HX.out.low.size;have HSM:=hid (exKJ_same (Os:=Os) (k:=k) hjt);have HPU:=hid (exKJ_put (Os:=Os) (k:=k) hjt);have hkey:=Go.WideMaps.keyOf_string_mk (P:=Tryz.prog) Tryz.underlying9 hnl;obtain⟨D,hD,hDf⟩:=id HX.out.m;rw[HM.out]at hD HPU;have HD0:=hid hD;have HDF:=hid hDf;have HLW:=hid HX.out.low;have HXM:=hid HX.out.m;unfold dpJ at HFJ;clear HX hD hDf;have HDP:Hid (fstF (dpJ Os k gl) gl 0=some j->fstF (dpB Os) Os 0=some k):=λhh=>by
      rw[HFK.out];unfold dpB;rw[HGL.out,hh];rfl
     generalize hnm:gl[j].name=nm at*;generalize gl[j].arity=ar at*;generalize gl[j].exp=ex at*;cases hf:exKJ Os k gl j nm with
     |some r=>
      obtain⟨q,a⟩:=r;rw[hf]at hlk HFJ HSM;simp only[xmV,xmP,Option.isSome_some]at hlk;cases ex with
      |true=>
       have HR:=hid (HDP.out (by rw[show fstF (dpJ Os k gl) gl 0=_ from HFJ.out];rfl));have hcv:=(HSE.out.keep HLW.out).c 14 (by omega);simp only[errE,kNum,List.getD_cons_succ,List.getD_cons_zero]at hcv;have hcv2:=λo1 o2=>alloc_old (wx.alloc o1) o2 _ _ _ (alloc_old wx o1 _ _ _ hcv);go_wp2_with (first
        |(go_at_call 76;refine(At_any _ _ _ _).mono ?_;rintro e w2 ⟨rfl,rfl⟩))
       go_ret2
       refine⟨(HLW.out.alloc hzx _).alloc (by simp;omega) _,?_⟩;rw[HR.out];rfl
      |false=>
       have HR:Hid (fstF (dpJ Os k gl) gl 0=fstF (dpJ Os k gl) (gl.drop (j+1)) (j+1)):=HFJ.out;have HM2:Hid (XM wx w.heap.size (gBase Os k+(j+1)) (exKJ Os k gl (j+1))):=(HXM.out.congr (HSM.out (Or.inl rfl))).mono (by omega);go_wp2;go_roundw
       case rel=>exact⟨j+1,by omega,by go_num,by go_num,(HLW.out.alloc hzx _).alloc (by simp;omega) _,(HM2.out.keep ((Below.refl _ _).alloc (Nat.le_refl _) _)).keep ((Below.refl _ _).alloc (Nat.le_refl _) _),HR.out⟩
       case measure=>simp[intOf];omega
     |none=>
      rw[hf]at hlk HFJ HPU;simp only[xmV,xmP,Option.isSome_none]at hlk;have HR:Hid (fstF (dpJ Os k gl) gl 0=fstF (dpJ Os k gl) (gl.drop (j+1)) (j+1)):=by
       show _=_;rw[show fstF (dpJ Os k gl) gl 0=_ from HFJ.out];simp only[Option.isSome_none,Bool.and_false];rfl
      cases ex with
      |true=>
       go_wp2_with (first
        |(at_mapUpdate;refine wpList_mapUpdate_own _ rfl (.tmp 44) (.tmp 46) (.tmp 50) 227 rfl 9 232 (Maps.string_keyed Tryz.underlying9) Tryz.mapT xmR w.heap.size (m+j) D rfl ((HD0.out.alloc _).alloc _) (by unfold maxLen;omega) (.string nm) (.agg #[.int .i64 ((m+j:Nat):Int),.int .i64 ar]) (keyL nm) rfl rfl hkey (xmD (some (m+j,ar))) [] rfl ?_;intro w1 hown1 hgrow1;have HM1:=hid (xm_put HD0.out HDF.out nm (m+j) ar _ _ hown1);have HB1:=hid (((HLW.out.alloc hzx _).alloc (by simp;omega) _).grown hgrow1 (by simp;omega) (λq hq=>by cases hq;exact Nat.le_refl _));clear hown1 hgrow1))
       go_roundw
       case rel=>exact⟨j+1,by omega,by go_num,by go_num,HB1.out,by rw[HM.out];exact HM1.out.congr (HPU.out rfl rfl),HR.out⟩
       case measure=>simp[intOf];omega
      |false=>
       have HM2:Hid (XM wx w.heap.size (gBase Os k+(j+1)) (exKJ Os k gl (j+1))):=(HXM.out.congr (HSM.out (Or.inl rfl))).mono (by omega);go_wp2;go_roundw
       case rel=>exact⟨j+1,by omega,by go_num,by go_num,(HLW.out.alloc hzx _).alloc (by simp;omega) _,(HM2.out.keep ((Below.refl _ _).alloc (Nat.le_refl _) _)).keep ((Below.refl _ _).alloc (Nat.le_refl _) _),HR.out⟩
       case measure=>simp[intOf];omega
    ·obtain rfl:j=gl.length:=by omega
     have hge:¬(gl.length:Int)<(gl.length:Int):=by omega
     go_wp2;go_roundw
     case rel=>
      refine⟨k+1,by omega,by rw[HGS.out,HM.out],by go_num,HX.out.low,?_,?_⟩
      ·rw[HGS.out];exact HX.out.m.congr HEND.out
      ·rw[HFK.out];unfold dpB;rw[HGL.out,HX.out.f,fstF_end _ _ (Nat.le_refl _)];rfl
     case measure=>simp[intOf];omega
  ·obtain rfl:k=Os.length:=by omega
   have hge:¬(Os.length:Int)<(Os.length:Int):=by omega
   go_wp2;go_ret2
   refine⟨HS.out.low,?_⟩;rw[HS.out.f,fstF_end _ _ (Nat.le_refl _)];exact⟨_,_,rfl,HS.out.m⟩
def miX(f:ByteArray->Option (Nat×Int))(O:LObj):Bool:=(fstF (λ_ i=>(f i.name).isNone) O.imps 0).isSome
def arX(f:ByteArray->Option (Nat×Int))(O:LObj):Bool:=(fstF (λ_ i=>decide ((xmP (f i.name)).2≠i.arity)) O.imps 0).isSome
theorem fldX0(x y:Value)(w:World):Sem.run Tryz.prog (Instr.field 232 (.agg #[x,y]) 0) w=.ok x w:=by kernel_rfl
theorem fldX1(x y:Value)(w:World):Sem.run Tryz.prog (Instr.field 232 (.agg #[x,y]) 1) w=.ok y w:=by kernel_rfl
def wiV(adr:Nat->Addr)(f:ByteArray->Option (Nat×Int))(Os:List LObj):Value:=match fstF (λ_=>miX f) Os 0 with
 |some k=>errF (adr 15) 0 (k:Int)
 |none=>errK adr 16 (fstF (λ_=>arX f) Os 0)
theorem wrongImport_any(Os:List LObj)(v:Value)(w:World)(adr:Nat->Addr)(b0 n0:Nat)(f:ByteArray->Option (Nat×Int))(h:ObjsAt w v Os)(hM:XM w b0 n0 f)(hS:SentAt w adr):
 Calls Tryz.prog 107 #[v,.map (some b0)] w λe w'=>e=.returned (wiV adr f Os)∧Below w.heap.size w w':=by
 obtain⟨p,cap,rfl,hs,hI⟩:=h;have HI:Hid (∀w',Below w.heap.size w w'->ObjsIn w' p Os):=λw' hb=>hI.keep hb;have HM:=hid (λw' (hb:Below w.heap.size w w')=>hM.keep hb);have HSE:=hid hS;unfold short at hs;clear hI hM hS;go_enter Tryz.func107,Tryz.ntmps107;go_wp2;go_loopw [17] (λkv wr=>∃k:Nat,k<=Os.length∧kv=.int .i64 (k:Int)∧Hid (fstF (λ_=>miX f) Os 0=fstF (λ_=>miX f) (Os.drop k) k∧Below w.heap.size w wr)) (λkv _=>Os.length-(intOf kv).toNat)
 case atStart=>exact⟨0,Nat.zero_le _,rfl,rfl,Below.refl _ _⟩
 case round=>
  obtain⟨k,hk,rfl,HS⟩:=hrel;rename World=>wr
  by_cases hlt:k<Os.length
  ·have h0:(0:Int)<=(k:Int):=by omega
   have h1:(k:Int)<(Os.length:Int):=by omega
   obtain⟨b,o,ip,ic,gp,gc,rfl,c0,c1,c2,hO⟩:=(HI.out _ HS.out.2).cells hlt;obtain⟨ip',ic',e,hil,hii⟩:=hO.globs.1.open;cases e;have HII:=hid hii;have HFK:=hid (HS.out.1.trans (fstF_at (λ_=>miX f) Os hlt));have HLW:=hid HS.out.2;have hzr:=HS.out.2.size;unfold miX at HFK;clear hii hO HS;generalize Os[k].globs=gl at*;generalize Os[k].name=onm at*;generalize Os[k].imps=im at*;go_wp2;go_loopw [25] (λjv wx=>∃j:Nat,j<=im.length∧jv=.int .i64 (j:Int)∧Hid (fstF (λ_ i=>(f i.name).isNone) im 0=fstF (λ_ (i:LImp)=>(f i.name).isNone) (im.drop j) j∧Below wr.heap.size wr wx)) (λjv _=>im.length-(intOf jv).toNat)
   case atStart=>exact⟨0,Nat.zero_le _,rfl,rfl,(Below.refl _ _).alloc (Nat.le_refl _) _⟩
   case round=>
    obtain⟨j,hj,rfl,HX⟩:=hrel;rename World=>wx
    by_cases hjt:j<im.length
    ·have j0:(0:Int)<=(j:Int):=by omega
     have j1:(j:Int)<(im.length:Int):=by omega
     obtain⟨ib,io,rfl,i0,i1,hnl⟩:=HII.out _ HX.out.2 j hjt;have HBX:=hid (HLW.out.trans (HX.out.2.mono hzr));have hzx:=HBX.out.size;have hzx2:=HX.out.2.size;have hlk:=λob=>(HM.out _ (HBX.out.alloc hzx ob)).look im[j].name hnl;have HFJ:=hid (HX.out.1.trans (fstF_at (λ_ (i:LImp)=>(f i.name).isNone) im hjt));generalize im[j].name=nm at*;generalize im[j].arity=ar at*;cases hf:f nm with
     |some r=>
      obtain⟨q,a⟩:=r;rw[hf]at hlk HFJ;simp only[xmV,xmP,Option.isSome_some]at hlk;go_wp2;go_roundw
      case rel=>exact⟨j+1,by omega,by go_num,HFJ.out,(HX.out.2.alloc hzx2 _).alloc (by simp;omega) _⟩
      case measure=>simp[intOf];omega
     |none=>
      rw[hf]at hlk HFJ;simp only[xmV,xmP,Option.isSome_none]at hlk;have HR:Hid (fstF (λ_=>miX f) Os 0=some k):=by
       show _=_;rw[show fstF (λ_=>miX f) Os 0=_ from HFK.out,HFJ.out];rfl
      have hcv:=(HSE.out.keep HBX.out).c 15 (by omega);simp only[errE,kNum,List.getD_cons_succ,List.getD_cons_zero]at hcv;have hcv2:=λo1 o2=>alloc_old (wx.alloc o1) o2 _ _ _ (alloc_old wx o1 _ _ _ hcv);go_wp2_with (first
       |(go_at_call 76;refine(At_any _ _ _ _).mono ?_;rintro e w2 ⟨rfl,rfl⟩))
      go_ret;exact⟨ret_val (by unfold wiV;rw[HR.out];rfl),(HBX.out.alloc hzx _).alloc (by simp;omega) _⟩
    ·obtain rfl:j=im.length:=by omega
     have hge:¬(im.length:Int)<(im.length:Int):=by omega
     have HR:Hid (fstF (λ_=>miX f) Os 0=fstF (λ_=>miX f) (Os.drop (k+1)) (k+1)):=by
      show _=_;rw[show fstF (λ_=>miX f) Os 0=_ from HFK.out,HX.out.1,fstF_end _ _ (Nat.le_refl _)];rfl
     go_wp2;go_roundw
     case rel=>exact⟨k+1,by omega,by go_num,HR.out,HLW.out.trans (HX.out.2.mono hzr)⟩
     case measure=>simp[intOf];omega
  ·obtain rfl:k=Os.length:=by omega
   have hge:¬(Os.length:Int)<(Os.length:Int):=by omega
   have HNO:Hid (fstF (λ_=>miX f) Os 0=none):=by
    show _=_;rw[HS.out.1,fstF_end _ _ (Nat.le_refl _)]
   have HLW0:=hid HS.out.2;clear HS hk;rename World=>wy
   have F1:=fldX1;go_wp2;go_loopw [45] (λkv wr=>∃k:Nat,k<=Os.length∧kv=.int .i64 (k:Int)∧Hid (fstF (λ_=>arX f) Os 0=fstF (λ_=>arX f) (Os.drop k) k∧Below w.heap.size w wr)) (λkv _=>Os.length-(intOf kv).toNat)
   case atStart=>exact⟨0,Nat.zero_le _,rfl,rfl,HLW0.out⟩
   case round=>
    obtain⟨k,hk,rfl,HS⟩:=hrel;rename World=>wr
    by_cases hlt:k<Os.length
    ·have h0:(0:Int)<=(k:Int):=by omega
     have h1:(k:Int)<(Os.length:Int):=by omega
     obtain⟨b,o,ip,ic,gp,gc,rfl,c0,c1,c2,hO⟩:=(HI.out _ HS.out.2).cells hlt;obtain⟨ip',ic',e,hil,hii⟩:=hO.globs.1.open;cases e;have HII:=hid hii;have HFK:=hid (HS.out.1.trans (fstF_at (λ_=>arX f) Os hlt));have HLW:=hid HS.out.2;have hzr:=HS.out.2.size;unfold arX at HFK;clear hii hO HS;generalize Os[k].globs=gl at*;generalize Os[k].name=onm at*;generalize Os[k].imps=im at*;go_wp2;go_loopw [53] (λjv wx=>∃j:Nat,j<=im.length∧jv=.int .i64 (j:Int)∧Hid (fstF (λ_ i=>decide ((xmP (f i.name)).2≠i.arity)) im 0=fstF (λ_ (i:LImp)=>decide ((xmP (f i.name)).2≠i.arity)) (im.drop j) j∧Below wr.heap.size wr wx)) (λjv _=>im.length-(intOf jv).toNat)
     case atStart=>exact⟨0,Nat.zero_le _,rfl,rfl,(Below.refl _ _).alloc (Nat.le_refl _) _⟩
     case round=>
      obtain⟨j,hj,rfl,HX⟩:=hrel;rename World=>wx
      by_cases hjt:j<im.length
      ·have j0:(0:Int)<=(j:Int):=by omega
       have j1:(j:Int)<(im.length:Int):=by omega
       obtain⟨ib,io,rfl,i0,i1,hnl⟩:=HII.out _ HX.out.2 j hjt;have HBX:=hid (HLW.out.trans (HX.out.2.mono hzr));have hzx:=HBX.out.size;have hzx2:=HX.out.2.size;have hlk:=λob=>(HM.out _ (HBX.out.alloc hzx ob)).look1 im[j].name hnl;have HFJ:=hid (HX.out.1.trans (fstF_at (λ_ (i:LImp)=>decide ((xmP (f i.name)).2≠i.arity)) im hjt));generalize im[j].name=nm at*;generalize im[j].arity=ar at*;generalize f nm=fo at*;unfold xmV at hlk;generalize (xmP fo).1=q at*;generalize (xmP fo).2=a at*;by_cases ha:a=ar
       ·have HR:Hid (fstF (λ_ (i:LImp)=>decide ((xmP (f i.name)).2≠i.arity)) im 0=fstF (λ_ (i:LImp)=>decide ((xmP (f i.name)).2≠i.arity)) (im.drop (j+1)) (j+1)):=by
         show _=_;rw[HFJ.out,if_neg (by simp[ha])]
        subst ha;go_wp2;go_roundw
        case rel=>exact⟨j+1,by omega,by go_num,HR.out,HX.out.2.alloc hzx2 _⟩
        case measure=>simp[intOf];omega
       ·have HR:Hid (fstF (λ_=>arX f) Os 0=some k):=by
         show _=_;rw[show fstF (λ_=>arX f) Os 0=_ from HFK.out,HFJ.out];simp[ha]
        have hcv:=(HSE.out.keep HBX.out).c 16 (by omega);simp only[errE,kNum,List.getD_cons_succ,List.getD_cons_zero]at hcv;have hcv2:=λo1=>alloc_old wx o1 _ _ _ hcv;go_wp2_with (first
         |(go_at_call 76;refine(At_any _ _ _ _).mono ?_;rintro e w2 ⟨rfl,rfl⟩))
        go_ret;exact⟨ret_val (by unfold wiV;rw[HNO.out,HR.out];rfl),HBX.out.alloc hzx _⟩
      ·obtain rfl:j=im.length:=by omega
       have hge:¬(im.length:Int)<(im.length:Int):=by omega
       have HR:Hid (fstF (λ_=>arX f) Os 0=fstF (λ_=>arX f) (Os.drop (k+1)) (k+1)):=by
        show _=_;rw[show fstF (λ_=>arX f) Os 0=_ from HFK.out,HX.out.1,fstF_end _ _ (Nat.le_refl _)];rfl
       go_wp2;go_roundw
       case rel=>exact⟨k+1,by omega,by go_num,HR.out,HLW.out.trans (HX.out.2.mono hzr)⟩
       case measure=>simp[intOf];omega
    ·obtain rfl:k=Os.length:=by omega
     have hge:¬(Os.length:Int)<(Os.length:Int):=by omega
     go_wp2;go_ret;exact⟨ret_val (by unfold wiV;rw[HNO.out,HS.out.1,fstF_end _ _ (Nat.le_refl _)];rfl),HS.out.2⟩
end Go.Proofs.YtdpodpjdcfjfgaaGreatDoor
