import Derived.Deep.RegionHeldLaw
import Derived.Test.YtblobglfjhilmaaGreatDoorPy6J
import Derived.Test.YtblobglfjhilmaaGreatDoorWrittenJ
import Derived.ArgAppend
import Derived.Test.YtblobglfjhilmaaGreatDoorDepthJ
import Derived.Test.YtblobglfjhilmaaGreatDoorEye8J
import Derived.Laws.IdiomStrings
set_option maxRecDepth 100000
set_option maxHeartbeats 8000000
namespace Go.Proofs.YtblobglfjhilmaaGreatDoor
open Go.RowKit Go.Sort
theorem ImpsAt.names{w:World}{v:Value}{l:List LImp}(h:ImpsAt w v l):short l.length∧∀i (hi:i<l.length),l[i].name.size<=maxLen:=by
 obtain⟨p,cap,-,hs,hc⟩:=h;refine⟨hs,λi hi=>?_⟩;obtain⟨_,_,-,-,-,h⟩:=hc i hi;exact h
theorem AltsAt.short{w:World}{v:Value}{l:List LAlt}(h:AltsAt w v l):short l.length:=by
 obtain⟨p,cap,-,hs,-⟩:=h;exact hs
theorem CodeAt.shorts{w:World}{v:Value}{l:List LIns}(h:CodeAt w v l):short l.length∧∀j (hj:j<l.length),short l[j].alts.length:=by
 obtain⟨p,cap,-,hs,hc⟩:=h;refine⟨hs,λi hi=>?_⟩;obtain⟨_,_,_,-,-,-,-,h⟩:=hc i hi;exact h.short
theorem GlobsAt.names{w:World}{v:Value}{l:List LGlob}(h:GlobsAt w v l):short l.length∧∀i (hi:i<l.length),l[i].name.size<=maxLen∧short l[i].code.length∧∀j (hj:j<l[i].code.length),short l[i].code[j].alts.length:=by
 obtain⟨p,cap,-,hs,hc⟩:=h;refine⟨hs,λi hi=>?_⟩;obtain⟨_,_,_,-,-,-,-,-,h,hn⟩:=hc i hi;exact⟨hn,h.shorts⟩
structure C3 (w:World) (b:Nat) (x y z:Value):Prop where
 c0:w.cell? ⟨b,0,none⟩=some x
 c1:w.cell? ⟨b,1,none⟩=some y
 c2:w.cell? ⟨b,2,none⟩=some z
 lt:b<w.heap.size
theorem C3.keep{w w':World}{b:Nat}{x y z:Value}(h:C3 w b x y z)(hb:Below w.heap.size w w'):C3 w' b x y z:=⟨cell_keep hb h.c0,cell_keep hb h.c1,cell_keep hb h.c2,Nat.lt_of_lt_of_le h.lt hb.size⟩
theorem C3.new(w:World)(x y z:Value)(t:TypeId):C3 (w.alloc (.cells #[x,y,z] t)) w.heap.size x y z:=⟨alloc_cell w #[x,y,z] t 0 _ rfl,alloc_cell w #[x,y,z] t 1 _ rfl,alloc_cell w #[x,y,z] t 2 _ rfl,by simp⟩
def NumAt(s:ByteArray)(d p:Nat)(n:Int)(q:Nat):Prop:=pE s d p=.ok (.num n,q)∧¬tokT s p=tOpen
theorem NumAt.call{B:World}{P W:Nat}{adr:Nat->Addr}{s:ByteArray}{gv:Value}{d nest p q:Nat}{n:Int}(h:NumAt s d p n q)(hs:s.size<=2000)(hp:p<=s.size)(w:World)(hB:PB B w P adr)(hS:PS w P W s p gv nest):Calls Tryz.prog 177 #[.pointer (some ⟨P,0,none⟩)] w λe w'=>XRes (pE s d p) P w adr (XV (d+1) s P W gv nest w) e w':=expr_at hs w p (λho=>absurd ho h.2) hB hS hp
def pOpK(E:Nat->Pr Ex)(k p:Nat):Pr Ex:=pb (E p) λl q1=>pb (E q1) λr q2=>.ok (.op k l r,q2)
theorem op_num{B:World}{P W:Nat}{adr:Nat->Addr}{s:ByteArray}{gv:Value}{d nest p q1 q2:Nat}{l r:Int}(k:Nat)(hs:s.size<=2000)(w:World)(hL:NumAt s d p l q1)(hR:NumAt s d q1 r q2)(hB:PB B w P adr)(h:PS w P W s p gv nest)(hp:p<=s.size):
 Calls Tryz.prog 268 #[.pointer (some ⟨P,0,none⟩),.int .i64 (9+(k:Int))] w λe w'=>XRes (pOpK (pE s d) k p) P w adr (XV (d+2) s P W gv nest w) e w':=by
 have H1:=hid (hL.call hs hp w hB h);have HB:=hid hB;have hPl:=h.lt;have HT:Hid (pOpK (pE s d) k p=.ok (.op k (.num l) (.num r),q2)):=by show pb _ _=_;rw[hL.1,pb_ok,hR.1,pb_ok]
 have HR1:=hid hL.1;have HR2:=hid hR.1;have HC2:=hid (λw1 hp=>hR.call (nest:=nest) (gv:=gv) (P:=P) (W:=W) (adr:=adr) (B:=B) hs hp w1);clear hB h hL hR;go_enter Tryz.func268,Tryz.ntmps268;go_wp2_with (first
  |(go_at_call 177;refine H1.out.mono ?_;intro e w1 hr;obtain⟨v,rfl,hE1,hq1,hS1,bs,hx1,hn1⟩:=hr.isOk HR1.out;obtain⟨vt,vx,rfl⟩:=hx1.if_;have HE1:=hid hE1;have HX1:=hid hx1;have HN1:=hid hn1;have H2:=hid (HC2.out w1 hq1 (HB.out.ef hE1) hS1);clear hr hE1 hS1 hx1 hn1 H1)
  |(go_at_call 177;refine H2.out.mono ?_;intro e w2 hr;obtain⟨v2,rfl,hE2,hq2,hS2,bs2,hx2,hn2⟩:=hr.isOk HR2.out;obtain⟨ut,ux,rfl⟩:=hx2.if_;have HE12:=hid hE2;have HE2:=hid (HE1.out.trans hE2);have HX2:=hid hx2;have HN2:=hid hn2;have HS2:=hid hS2;clear hr hE2 hS2 hx2 hn2 H2))
 go_ret2
 refine XRes.ok HT.out HE2.out ⟨hq2,HS2.out,bs++bs2,?_,HN1.out.app HN2.out HE1.out.size HE12.out.size⟩;exact⟨_,bs,_,bs2,rfl,okPX _ _ _ _ HX1.out HE12.out.size (HN1.out.fr HE12.out hPl),HX2.out,rfl⟩
theorem sgn_ne{t:ByteArray}{k:Nat}(h:signOf t=some k):t≠⟨#[]⟩:=λe=>by
 rw[e]at h;have:signOf ⟨#[]⟩=none:=by decide
 rw[this]at h;cases h
theorem form_opK{s:ByteArray}{E:Nat->Pr Ex}{p k:Nat}(h:signOf (tokT s p)=some k):pForm s E p=pOpK E k (nxt s p):=by unfold pForm;rw[h];rfl
theorem inside_num{B:World}{P W:Nat}{adr:Nat->Addr}{s:ByteArray}{gv:Value}{d nest p q1 q2 k:Nat}{l r:Int}(hs:s.size<=2000)(w:World)(hk:signOf (tokT s p)=some k)(hL:NumAt s d (nxt s p) l q1)(hR:NumAt s d q1 r q2)(hB:PB B w P adr)(h:PS w P W s p gv nest)(hp:p<=s.size):
 Calls Tryz.prog 251 #[.pointer (some ⟨P,0,none⟩)] w λe w'=>XRes (pForm s (pE s d) p) P w adr (XV (d+2) s P W gv nest w) e w':=by
 have HP:=hid (peek_any h hp);have HB:=hid hB;have HS:=hid h;have hnx:=nxt_le hp;have F0:=fldW0;have HV:Hid (signV (tokT s p)=.tuple #[.int .i64 (9+(k:Int)),.bool true]):=by show(match signOf (tokT s p) with|some k=>_|none=>_)=_;rw[hk]
 have HT:=hid (form_opK (E:=pE s d) hk);have HNE:=hid (sgn_ne hk);have HC:Hid (∀w1,EF P w w1->PS w1 P W s (nxt s p) gv nest->Calls Tryz.prog 268 #[.pointer (some ⟨P,0,none⟩),.int .i64 (9+(k:Int))] w1 λe w'=>XRes (pForm s (pE s d) p) P w adr (XV (d+2) s P W gv nest w) e w'):=by
  intro w1 h1 h2;rw[HT.out];exact(op_num k hs w1 hL hR (HB.out.ef h1) h2 hnx).mono λ_ _ hr=>hr.rebase h1
 clear hB h hk hL hR HT;go_enter Tryz.func251,Tryz.ntmps251;go_wp2_with (first
  |(go_at_call 66;refine HP.out.mono ?_;rintro e w1 ⟨rfl,hb1⟩;have HB1:=hid hb1;clear hb1)
  |(go_at_call 267;refine(opOf_any _ _).mono ?_;rintro e w' ⟨rfl,rfl⟩;rw[HV.out])
  |(go_at_call 67;refine(skip_any (HS.out.below HB1.out) hp).mono ?_;rintro e w2 ⟨rfl,hE2,hP2⟩;have HE2:=hid ((EF.of_below (E:=P) HB1.out).trans hE2);have HP2:=hid (hP2 HNE.out);clear hE2 hP2)
  |(go_at_call 268;refine(HC.out _ HE2.out HP2.out).mono ?_;intro e w3 hr;have HR:=hid hr;obtain⟨ra,rb,rfl⟩:=hr.two;clear hr))
 go_ret2
 exact HR.out
theorem bracket_num{B:World}{P W:Nat}{adr:Nat->Addr}{s:ByteArray}{gv:Value}{d nest p q1 q2 q3 k:Nat}{l r:Int}(hs:s.size<=2000)(hn:nest<30)(w:World)(ho:tokT s p=tOpen)(hk:signOf (tokT s (nxt s p))=some k)(hL:NumAt s d (nxt s (nxt s p)) l q1)(hR:NumAt s d q1 r q2)(hc:pWant s tClose q2=.ok ((),q3))(hB:PB B w P adr)(h:PS w P W s p gv nest)(hp:p<=s.size):
 Calls Tryz.prog 224 #[.pointer (some ⟨P,0,none⟩)] w λe w'=>XRes (pE s (d+1) p) P w adr (XV (d+2) s P W gv nest w) e w':=by
 have hnx:=nxt_le hp;have hI:=λw1=>inside_num (B:=B) (P:=P) (W:=W) (adr:=adr) (gv:=gv) (nest:=nest+1) hs w1 hk hL hR;have hf:pForm s (pE s d) (nxt s p)=.ok (.op k (.num l) (.num r),q2):=by rw[form_opK hk];show pb _ _=_;rw[hL.1,pb_ok,hR.1,pb_ok]
 have HTF:Hid (pE s (d+1) p=.ok (.op k (.num l) (.num r),q3)):=by show _=_;rw[pE_open (d:=d) ho,hf,pb_ok,hc,pb_ok]
 have c2:=h.c2;have f2:=h.f 2 (by omega);have hPl:=h.lt;have j0:((nest:Int)==30)=false:=by rw[beq_eq_false_iff_ne];omega
 have j1:(0:Int)<=(nest:Int):=by omega
 have j2:(nest:Int)<30:=by omega
 have HB:=hid hB;have HN0:Hid (PS (w.setCell ⟨P,2,none⟩ (.int .i64 ((nest:Int)+1))) P W s p gv (nest+1)):=by
  have:=h.setNest (nest+1);rw[show(((nest+1:Nat):Int))=(nest:Int)+1 by omega]at this;exact this
 have HE0:Hid (EF P w (w.setCell ⟨P,2,none⟩ (.int .i64 ((nest:Int)+1)))):=(EF.refl _ _).set _;have HSK:=hid (skip_any HN0.out hp);have HNE:Hid (tokT s p≠⟨#[]⟩):=by show _≠_;rw[ho];exact tOpen_ne
 have HF:=hid hf;have HC:=hid hc;clear hB h ho hf hc hk hL hR;go_enter Tryz.func224,Tryz.ntmps224;go_wp2_with (first
  |(go_at_call 67;refine HSK.out.mono ?_;rintro e w1 ⟨rfl,hE1,hP1⟩;have HE1:=hid (HE0.out.trans hE1);have HP1:=hid (hP1 HNE.out);clear hE1 hP1)
  |(go_at_call 251;refine(hI _ (HB.out.ef HE1.out) HP1.out hnx).mono ?_;intro e w2 hr;obtain⟨v,rfl,hE2,hq2,hS2,bs,hx2,hn2⟩:=hr.isOk HF.out;obtain⟨vt,vx,rfl⟩:=hx2.if_;have HE2:=hid (HE1.out.trans hE2);have k2:=hS2.c2;have g2:=hS2.f 2 (by omega);have HS2:Hid (PS (w2.setCell ⟨P,2,none⟩ (.int .i64 (nest:Int))) P W s q2 gv nest):=hS2.setNest nest;have HE3:Hid (EF P w (w2.setCell ⟨P,2,none⟩ (.int .i64 (nest:Int)))):=HE2.out.set _;have m1:((nest+1:Nat):Int)-1=(nest:Int):=(by omega);have HX2:=hid hx2;have HN2:=hid (hn2.low HE1.out.size);clear hr hE2 hS2 hx2 hn2)
  |(go_at_call 64;refine(expect1N tClose _ (by simp) (HB.out.ef HE3.out) HS2.out hq2 (by decide)).mono ?_;intro e w4 hr;obtain⟨rfl,hE4,hq4,hS4⟩:=hr.isOk HC.out;have HE24:Hid (EF P w2 w4):=((EF.refl P w2).set _).trans hE4;have HE4:=hid (HE3.out.trans hE4);have HS4:=hid hS4;clear hr hE4 hS4))
 go_ret2
 refine XRes.ok HTF.out HE4.out ⟨hq4,HS4.out,bs,?_,HN2.out.up HE24.out.size⟩;exact okPX _ _ _ _ HX2.out HE24.out.size (HN2.out.fr HE24.out hPl)
def ib(x:LImp):List Nat:=nb x.name++vb x.arity.toNat
def gb(g:LGlob):List Nat:=nb g.name++vb g.arity.toNat++[if g.exp then 1 else 0]++vb g.code.length++g.code.flatMap wb
def hdB(O:LObj):List Nat:=[84,65,82,78]++nb O.name++vb O.imps.length
def hb(O:LObj):List Nat:=hdB O++O.imps.flatMap ib++vb O.globs.length++O.globs.flatMap gb
structure GoodO (O:LObj):Prop where
 name:O.name.size<=16
 imps:∀x∈O.imps,x.name.size<=16∧0<=x.arity∧x.arity<=20
 globs:∀g∈O.globs,g.name.size<=16∧(0<=g.arity∧g.arity<=20)∧g.code.length<=65535∧∀x∈g.code,insG x.op x.a x.alts=true
theorem nmB_size{s:ByteArray}(h:nmB s=true):s.size<=16:=by
 simp only[nmB,Bool.and_eq_true,decide_eq_true_eq]at h;exact h.1.1.2
theorem impsFrom_good:∀(l:List LImp) (last:ByteArray),impsFrom last l=true->∀x∈l,x.name.size<=16∧0<=x.arity∧x.arity<=20
 |a::r,last,h,x,hx=>by
  simp only[impsFrom,Bool.and_eq_true]at h;rcases List.mem_cons.1 hx with rfl|hx
  ·have h1:=h.1.2;simp only[arB,Bool.and_eq_true,decide_eq_true_eq]at h1;exact⟨nmB_size h.1.1.1,h1.1,h1.2⟩
  ·exact impsFrom_good r _ h.2 x hx
theorem globsFrom_good(imps:List LImp):∀(l:List LGlob) (last:ByteArray),globsFrom imps last l=true->∀g∈l,g.name.size<=16∧(0<=g.arity∧g.arity<=20)∧g.code.length<=65535∧∀x∈g.code,insG x.op x.a x.alts=true
 |a::r,last,h,x,hx=>by
  simp only[globsFrom,Bool.and_eq_true]at h;rcases List.mem_cons.1 hx with rfl|hx
  ·have h1:=h.1.1.2;simp only[arB,Bool.and_eq_true,decide_eq_true_eq]at h1;have h2:=h.1.2;simp only[codeG,Bool.and_eq_true,decide_eq_true_eq,List.all_eq_true]at h2;exact⟨nmB_size h.1.1.1.1.1,h1,h2.1,h2.2⟩
  ·exact globsFrom_good imps r _ h.2 x hx
theorem GoodO.of{O:LObj}(h:valsG O=true):GoodO O:=by
 simp only[valsG,Bool.and_eq_true]at h;exact⟨nmB_size h.1.1,impsFrom_good _ _ h.1.2,globsFrom_good _ _ _ h.2⟩
def RangeO(O:LObj):Prop:=∀g∈O.globs,∀x∈g.code,-9223372036854775808<=x.a∧x.a<=9223372036854775807
def toU8(l:List Nat):List UInt8:=l.map λb=>UInt8.ofNat b
def toBA(l:List Nat):ByteArray:=⟨(toU8 l).toArray⟩
def sumB(l:List Nat):List Nat:=[crc (toU8 l) % 256,crc (toU8 l) / 256 % 256,crc (toU8 l) / 65536 % 256,crc (toU8 l) / 16777216 % 256]
def encV(O:LObj):Value:=if (hb O).length+4<=100000 then .tuple #[.string (toBA (hb O++sumB (hb O))),.int .i64 0] else .tuple #[.string ⟨#[]⟩,.int .i64 1]
theorem flat_snoc{α:Type}(f:α->List Nat)(l:List α)(j:Nat)(hj:j<l.length):(l.take (j+1)).flatMap f=(l.take j).flatMap f++f l[j]:=by
 rw[List.take_succ_eq_append_getElem hj,List.flatMap_append];simp
theorem vb_lt:∀(k n:Nat),n<128 ^ k->∀b∈vb n,b<256
 |0,n,h,b,hb=>by
  rw[vb_small (by simp at h;omega)]at hb;simp at hb h;omega
 |k+1,n,h,b,hb=>by
  by_cases h1:n<128
  ·rw[vb_small h1]at hb;simp at hb;omega
  ·rw[vb_big h1]at hb;rcases List.mem_cons.1 hb with rfl|hb
   ·omega
   ·exact vb_lt k (n / 128) (by rw[Nat.pow_succ]at h;omega) b hb
theorem vb_lt10(n:Nat)(h:n<18446744073709551616):∀b∈vb n,b<256:=vb_lt 10 n (by omega)
theorem nb_lt(s:ByteArray)(h:s.size<=16):∀b∈nb s,b<256:=by
 intro b hb;unfold nb tb at hb;rcases List.mem_append.1 hb with hb|hb
 ·exact vb_lt10 s.size (by omega) b hb
 ·obtain⟨x,-,rfl⟩:=List.mem_map.1 hb;exact x.toNat_lt
theorem wb_lt(x:LIns)(hG:insG x.op x.a x.alts=true)(h1:-9223372036854775808<=x.a)(h2:x.a<=9223372036854775807):∀b∈wb x,b<256:=by
 obtain⟨op,a,alts⟩:=x;simp only at hG h1 h2;have ho:0<=op∧op<21:=by
  unfold insG at hG;split at hG
  ·assumption
  ·cases hG
 obtain⟨k,rfl⟩:=Int.eq_ofNat_of_zero_le ho.1;have hk:k<21:=by omega
 have hR:=insG_row k hk a alts;rw[hG]at hR;intro b hb;unfold wb at hb;simp only[Int.toNat_natCast]at hb;rcases List.mem_cons.1 hb with rfl|hb2
 ·omega
 ·by_cases h0:(k:Int)=0
  ·rw[if_pos h0]at hb2;exact vb_lt10 (fA a) (by unfold fA;split<;>omega) b hb2
  ·rw[if_neg h0]at hb2;by_cases h17:(k:Int)=17
   ·rw[if_pos h17]at hb2;have h17':k=17:=by omega
    subst h17';rw[show rowN 17 0=3 from rfl]at hR;simp only[show ¬((3:Int)=1) by omega,show ¬((3:Int)=2) by omega,if_false,if_true]at hR;have h3:=hR.symm;simp only[Bool.and_eq_true,beq_iff_eq]at h3;rw[altsGood_eq]at h3;simp only[Bool.and_eq_true,decide_eq_true_eq]at h3;have h4:=(altsB_iff alts).1 h3.2.1;have h5:=altsB_len alts h3.2.1;rcases List.mem_append.1 hb2 with hb3|hb3
    ·exact vb_lt10 _ (by omega) b hb3
    ·unfold altBytes at hb3;obtain⟨y,hy,hb4⟩:=List.mem_flatMap.1 hb3;obtain⟨i,hi,rfl⟩:=List.mem_iff_getElem.1 hy;have h6:=h4.1 i hi hi;simp only[altOk,Bool.and_eq_true,decide_eq_true_eq]at h6;rcases List.mem_append.1 hb4 with hb5|hb5
     ·exact vb_lt10 _ (by omega) b hb5
     ·exact vb_lt10 _ (by omega) b hb5
   ·rw[if_neg h17]at hb2;by_cases h2':rowN k 0=2
    ·rw[if_pos h2']at hb2;exact vb_lt10 _ (by omega) b hb2
    ·rw[if_neg h2']at hb2;cases hb2
theorem hb_lt(O:LObj)(h:GoodO O)(hr:RangeO O)(hi:O.imps.length<140737488355328)(hg:O.globs.length<140737488355328):∀b∈hb O,b<256:=by
 intro b hb';unfold hb hdB at hb';simp only[List.mem_append]at hb';rcases hb' with((((hb'|hb')|hb')|hb')|hb')|hb'
 ·simp at hb';omega
 ·exact nb_lt _ h.name b hb'
 ·exact vb_lt10 _ (by omega) b hb'
 ·obtain⟨x,hx,hb'⟩:=List.mem_flatMap.1 hb';obtain⟨r0,r1,r2⟩:=h.imps x hx;unfold ib at hb';rcases List.mem_append.1 hb' with hb'|hb'
  ·exact nb_lt _ r0 b hb'
  ·exact vb_lt10 _ (by omega) b hb'
 ·exact vb_lt10 _ (by omega) b hb'
 ·obtain⟨x,hx,hb'⟩:=List.mem_flatMap.1 hb';obtain⟨r0,⟨r1,r2⟩,r3,r4⟩:=h.globs x hx;unfold gb at hb';simp only[List.mem_append]at hb';rcases hb' with(((hb'|hb')|hb')|hb')|hb'
  ·exact nb_lt _ r0 b hb'
  ·exact vb_lt10 _ (by omega) b hb'
  ·simp at hb';split at hb'<;>omega
  ·exact vb_lt10 _ (by omega) b hb'
  ·obtain⟨y,hy,hb'⟩:=List.mem_flatMap.1 hb';exact wb_lt y (r4 y hy) (hr x hx y hy).1 (hr x hx y hy).2 b hb'
theorem toU8_len(l:List Nat):(toU8 l).length=l.length:=List.length_map _
theorem conv_buf{w:World}{B g n c:Nat}{bs:List Nat}(h:Buf w B (.slice (some ⟨g,0,none⟩) n c) bs)(hn:n=bs.length)(hl:∀b∈bs,b<256):(convert 94 9 (.slice (some ⟨g,0,none⟩) n c)).run Tryz.prog w=.ok (.string (toBA bs)) w:=by
 have h1:=run_convert_bytes_back (P:=Tryz.prog) w 94 9 5 ⟨g,0,none⟩ c (toU8 bs) Tryz.underlying94 Tryz.underlying5 Tryz.underlying9 (λj hj=>by
  rw[toU8_len]at hj;refine Buf.cellsOf h j _ ?_;have hb:=hl _ (List.getElem_mem hj);simp only[u8s,toU8,List.getElem?_map,List.getElem_map,List.getElem?_eq_getElem hj,Option.map_some];rw[UInt8.toNat_ofNat',Nat.mod_eq_of_lt (by omega)])
 rw[toU8_len,<-hn]at h1;exact h1
theorem toBA_list(l:List Nat):(toBA l).data.toList=toU8 l:=by simp[toBA]
theorem toBA_size(l:List Nat):(toBA l).size=l.length:=by
 show(toBA l).data.size=_;rw[<-Array.length_toList,toBA_list,toU8_len]
theorem Buf.snoc{w:World}{B g m k b:Nat}{L:List Nat}(h:w.ownsRow B 5 1 (.slice (some ⟨g,0,none⟩) (L.length+1) k) (L.length+1) (u8s L++[.int .u8 (b:Int)]))(hm:m=L.length+1):Buf w B (.slice (some ⟨g,0,none⟩) m k) (L++[b]):=by
 subst hm;unfold Buf;rw[List.length_append,u8s_app];exact h
theorem Buf.more{w:World}{B g m k:Nat}{L M:List Nat}(h:w.ownsRow B 5 1 (.slice (some ⟨g,0,none⟩) (L.length+M.length) k) (L.length+M.length) (u8s L++u8s M))(hm:m=L.length+M.length):Buf w B (.slice (some ⟨g,0,none⟩) m k) (L++M):=by
 subst hm;unfold Buf;rw[List.length_append,u8s_app];exact h
end Go.Proofs.YtblobglfjhilmaaGreatDoor
namespace Go.Proofs.YtblobglfjhilmaaGreatDoor
open Go.RowKit
def bA(s:ByteArray)(p:Nat):List Nat:=(tb s).drop p
def Bt(s:ByteArray)(p:Nat)(l:List Nat):Prop:=∃r,bA s p=l++r
section
variable {s:ByteArray} {p:Nat}
theorem bA_cons(h:p<s.size):bA s p=s[p].toNat::bA s (p+1):=by
 unfold bA;rw[List.drop_eq_getElem_cons (by rw[tb_len];exact h)];congr 1
 simp only[tb,List.getElem_map,Array.getElem_toList];rfl
theorem bA_nil(h:¬p<s.size):bA s p=[]:=List.drop_of_length_le (by rw[tb_len];omega)
theorem bA_drop(n:Nat):bA s (p+n)=(bA s p).drop n:=by unfold bA;rw[List.drop_drop]
theorem Bt.nil:Bt s p []:=⟨_,rfl⟩
theorem Bt.app{a b:List Nat}:Bt s p (a++b)↔Bt s p a∧Bt s (p+a.length) b:=by
 constructor
 ·rintro⟨r,h⟩;refine⟨⟨b++r,by rw[h,List.append_assoc]⟩,r,?_⟩;rw[bA_drop,h,List.append_assoc,List.drop_left]
 ·rintro⟨⟨r,h⟩,r',h'⟩;rw[bA_drop,h,List.drop_left]at h';exact⟨r',by rw[h,h',List.append_assoc]⟩
theorem Bt.cons{x:Nat}{l:List Nat}:Bt s p (x::l)↔(∃h:p<s.size,s[p].toNat=x)∧Bt s (p+1) l:=by
 by_cases hp:p<s.size
 ·constructor
  ·rintro⟨r,h⟩;rw[bA_cons hp,List.cons_append,List.cons.injEq]at h;exact⟨⟨hp,h.1⟩,r,h.2⟩
  ·rintro⟨⟨_,h⟩,r,h'⟩;exact⟨r,by rw[bA_cons hp,h,h'];rfl⟩
 ·constructor
  ·rintro⟨r,h⟩;rw[bA_nil hp]at h;cases h
  ·rintro⟨⟨h,_⟩,_⟩;exact absurd h hp
theorem Bt.le{l:List Nat}(h:Bt s p l)(hp:p<=s.size):p+l.length<=s.size:=by
 obtain⟨r,h⟩:=h;have:=congrArg List.length h;unfold bA at this;rw[List.length_drop,tb_len,List.length_append]at this;omega
theorem vRead_at{fr:Nat}:∀(m k p n:Nat),Bt s p (vb m)->(k=0∨0<m)->m*128 ^ k<18446744073709551616->vRead s fr k p n=.ok (n+m*128 ^ k,p+(vb m).length):=by
 intro m;induction m using Nat.strongRecOn with
 |ind m ih=>
  intro k p n hb hk hm;have hbig:9<=k->128 ^ 9<=128 ^ k:=λh=>Nat.pow_le_pow_right (by omega) h;by_cases h1:m<128
  ·rw[vb_small h1]at hb ⊢;obtain⟨⟨hp,hx⟩,-⟩:=Bt.cons.1 hb;rw[vRead_end hp ?_ (by omega)]
   ·rw[hx,Nat.mod_eq_of_lt h1];rfl
   ·rw[hx];rintro(⟨rfl,h⟩|⟨h,rfl⟩)
    ·have:=Nat.mul_le_mul_right (128 ^ 9) h;omega
    ·omega
  ·rw[vb_big h1]at hb ⊢;obtain⟨⟨hp,hx⟩,hb⟩:=Bt.cons.1 hb;have hmk:=Nat.mul_le_mul_right (128 ^ k) (show 128<=m by omega);have hk9:k<9:=Nat.lt_of_not_le λh=>by have:=hbig h;omega
   rw[vRead_more hp (by rw[hx];omega) (by rw[hx];omega)];have e1:(m / 128)*128 ^ (k+1)=(m / 128*128)*128 ^ k:=by rw[Nat.pow_succ,Nat.mul_comm (128 ^ k) 128,Nat.mul_assoc]
   have e2:m / 128*128*128 ^ k+m % 128*128 ^ k=m*128 ^ k:=by rw[<-Nat.add_mul,Nat.div_add_mod']
   rw[ih (m / 128) (by omega) (k+1) (p+1) _ hb (Or.inr (by omega)) (by omega),hx,show(m % 128+128) % 128=m % 128 by omega];simp only[List.length_cons,Except.ok.injEq,Prod.mk.injEq];exact⟨by omega,by omega⟩
theorem vRead_inv{fr:Nat}:∀(f k p n v q:Nat),s.size-p<=f->k<=9->vRead s fr k p n=.ok (v,q)->∃m,v=n+m*128 ^ k∧Bt s p (vb m)∧q=p+(vb m).length∧(k=0∨0<m):=by
 intro f;induction f with
 |zero=>
  intro k p n v q hf hk h;rw[vRead_short (by omega)]at h;cases h
 |succ f ih=>
  intro k p n v q hf hk h;by_cases hp:p<s.size
  ·by_cases h1:(k=9∧1<s[p].toNat)∨(0<k∧s[p].toNat=0)
   ·rw[vRead_bad hp h1]at h;cases h
   ·by_cases h2:s[p].toNat<128
    ·rw[vRead_end hp h1 h2]at h;cases h;refine⟨s[p].toNat,by rw[Nat.mod_eq_of_lt h2],?_,by rw[vb_small h2];rfl,by omega⟩;rw[vb_small h2];exact Bt.cons.2 ⟨⟨hp,rfl⟩,Bt.nil⟩
    ·rw[vRead_more hp h1 h2]at h;have hlt:s[p].toNat<256:=s[p].toNat_lt;obtain⟨m,e,hb,hq,hm⟩:=ih (k+1) (p+1) _ v q (by omega) (by omega) h;have hm0:0<m:=by omega
     have e1:m*128 ^ (k+1)=(m*128)*128 ^ k:=by rw[Nat.pow_succ,Nat.mul_comm (128 ^ k) 128,Nat.mul_assoc]
     have hv:vb (m*128+s[p].toNat % 128)=s[p].toNat::vb m:=by
      rw[vb_big (by omega),show(m*128+s[p].toNat % 128) / 128=m by omega,show(m*128+s[p].toNat % 128) % 128+128=s[p].toNat by omega]
     refine⟨m*128+s[p].toNat % 128,?_,?_,?_,by omega⟩
     ·rw[Nat.add_mul,<-e1,e];omega
     ·rw[hv];exact Bt.cons.2 ⟨⟨hp,rfl⟩,hb⟩
     ·rw[hv,List.length_cons];omega
  ·rw[vRead_short hp]at h;cases h
theorem rdV_iff{m q:Nat}:rdV s p=.ok (m,q)↔m<18446744073709551616∧Bt s p (vb m)∧q=p+(vb m).length:=by
 constructor
 ·intro h;obtain⟨m',e,hb,hq,-⟩:=vRead_inv (s.size-p) 0 p 0 m q (Nat.le_refl _) (by omega) h;rw[Nat.pow_zero,Nat.mul_one,Nat.zero_add]at e;subst e;exact⟨(rdV_ok h).1,hb,hq⟩
 ·rintro⟨h1,h2,rfl⟩;rw[rdV,vRead_at m 0 p 0 h2 (Or.inl rfl) (by omega),Nat.pow_zero,Nat.mul_one,Nat.zero_add]
theorem rdN_iff{lo hi m q:Nat}(hh:hi<18446744073709551616):rdN s lo hi p=.ok (m,q)↔(lo<=m∧m<=hi)∧Bt s p (vb m)∧q=p+(vb m).length:=by
 constructor
 ·intro h;have h1:=rdN_ok h;match h2:rdV s p with
  |.error e=>rw[rdN_v h2]at h;cases h
  |.ok (n,r)=>
   have h3:=rdV_iff.1 h2;by_cases h4:n<lo∨hi<n
   ·rw[rdN_bad h2 h4]at h;cases h
   ·rw[rdN_good h2 h4]at h;cases h;exact⟨⟨h1.1,h1.2.1⟩,h3.2⟩
 ·rintro⟨h1,h2,rfl⟩;exact rdN_good (rdV_iff.2 ⟨by omega,h2,rfl⟩) (by omega)
theorem tb_inj{a b:ByteArray}(h:tb a=tb b):a=b:=by
 unfold tb at h;have:=List.map_inj_right (f:=λb:UInt8=>b.toNat) (λx y h=>UInt8.toNat_inj.1 h)|>.1 h;exact ByteArray.ext (Array.toList_inj.1 this)
theorem tb_ext(a b:Nat):tb (s.extract a b)=((tb s).drop a).take (b-a):=by
 unfold tb;rw[ByteArray.data_extract,Array.toList_extract,List.extract_eq_take_drop,List.map_take,List.map_drop]
theorem ext_iff{t:ByteArray}{n:Nat}(hn:p+n<=s.size):s.extract p (p+n)=t↔Bt s p (tb t)∧t.size=n:=by
 have hl:((tb s).drop p).length=s.size-p:=by rw[List.length_drop,tb_len]
 constructor
 ·rintro rfl;refine⟨⟨bA s (p+n),?_⟩,?_⟩
  ·rw[tb_ext,bA_drop,Nat.add_sub_cancel_left];exact(List.take_append_drop ..).symm
  ·rw[<-tb_len,tb_ext,List.length_take,hl];omega
 ·rintro⟨⟨r,h⟩,rfl⟩;refine tb_inj ?_;rw[tb_ext,Nat.add_sub_cancel_left,show(tb s).drop p=tb t++r from h,<-tb_len,List.take_left]
theorem rdName_iff{t:ByteArray}{q:Nat}:rdName s p=.ok (t,q)↔nmB t=true∧Bt s p (nb t)∧q=p+(nb t).length:=by
 constructor
 ·intro h;match h1:rdV s p with
  |.error e=>rw[rdName_v h1]at h;cases h
  |.ok (n,r)=>
   by_cases h2:n<1∨16<n
   ·rw[rdName_size h1 h2]at h;cases h
   by_cases h3:s.size<r+n
   ·rw[rdName_short h1 h2 h3]at h;cases h
   cases h4:nmB (s.extract r (r+n)) with
   |false=>rw[rdName_bad h1 h2 h3 h4]at h;cases h
   |true=>
    rw[rdName_good h1 h2 h3 h4]at h;obtain⟨-,k2,k3⟩:=rdV_iff.1 h1;cases h;obtain⟨e1,e2⟩:=(ext_iff (s:=s) (p:=r) (n:=n) (by omega)).1 rfl;refine⟨h4,?_,?_⟩
    ·unfold nb;rw[e2];exact Bt.app.2 ⟨k2,k3▸e1⟩
    ·unfold nb;rw[List.length_append,tb_len,e2];omega
 ·rintro⟨h1,h2,rfl⟩;have h16:=nmB_size h1;have h0:0<t.size:=by
   simp only[nmB,Bool.and_eq_true,decide_eq_true_eq]at h1;exact h1.1.1.1
  unfold nb at h2 ⊢;obtain⟨k1,k2⟩:=Bt.app.1 h2;have hp:p<s.size:=by
   have hv:=k1;by_cases hs:p<s.size
   ·exact hs
   ·obtain⟨r,hr⟩:=hv;rw[bA_nil hs]at hr;have:=congrArg List.length hr;have h3:=vb_pos t.size;rw[List.length_append,List.length_nil]at this;omega
  have hle:=k1.le (Nat.le_of_lt hp);have hle2:=k2.le hle;rw[tb_len]at hle2;have he:=(ext_iff (s:=s) (n:=t.size) hle2).2 ⟨k2,rfl⟩;rw[rdName_good (rdV_iff.2 ⟨by omega,k1,rfl⟩) (by omega) (by omega) (by rw[he];exact h1),he,List.length_append,tb_len,Nat.add_assoc]
theorem rdNameB_iff{last:ByteArray}{imps:List LImp}{t:ByteArray}{q:Nat}:rdNameB s last imps p=.ok (t,q)↔(nmB t=true∧gtB t last=true∧hasN imps t=false)∧Bt s p (nb t)∧q=p+(nb t).length:=by
 constructor
 ·intro h;obtain⟨h1,h2,h3⟩:=rdNameB_ok h;obtain⟨k1,k2⟩:=rdName_iff.1 h1;exact⟨⟨k1,h2,h3⟩,k2⟩
 ·rintro⟨⟨h1,h2,h3⟩,h4⟩;exact rdNameB_good (rdName_iff.2 ⟨h1,h4⟩) (by rw[h2,h3];rfl)
end
theorem bd_iff{α β:Type}{r:Rd α}{f:α->Nat->Rd β}{b:β}{t:Nat}:bd r f=.ok (b,t)↔∃a q,r=.ok (a,q)∧f a q=.ok (b,t):=⟨bd_ok_inv,λ⟨_,_,h1,h2⟩=>by rw[bd_ok h1];exact h2⟩
section
variable {s:ByteArray}
def AGr:List LAlt->List LAlt->Prop
 |_,[]=>True
 |got,x::m=>altOk x=true∧got.any (λy=>y.tag==x.tag)=false∧AGr (got++[x]) m
theorem AGr_iff:∀(m got:List LAlt),AGr got m↔m.all altOk=true∧m.Pairwise (λa b=>a.tag≠b.tag)∧∀x∈got,∀y∈m,x.tag≠y.tag
 |[],got=>by simp[AGr]
 |z::m,got=>by
  unfold AGr;rw[AGr_iff m (got++[z]),List.all_cons,Bool.and_eq_true,List.pairwise_cons,List.any_eq_false];constructor
  ·rintro⟨h1,h2,h3,h4,h5⟩;refine⟨⟨h1,h3⟩,⟨λy hy=>h5 z (by simp) y hy,h4⟩,λx hx y hy=>?_⟩;rcases List.mem_cons.1 hy with rfl|hy
   ·simpa using h2 x hx
   ·exact h5 x (List.mem_append_left _ hx) y hy
  ·rintro⟨⟨h1,h3⟩,⟨h6,h4⟩,h5⟩;refine⟨h1,λx hx=>by simpa using h5 x hx z (by simp),h3,h4,λx hx y hy=>?_⟩;rcases List.mem_append.1 hx with hx|hx
   ·exact h5 x hx y (List.mem_cons_of_mem _ hy)
   ·rw[List.mem_singleton.1 hx];exact h6 y hy
theorem AGr_nil(m:List LAlt):AGr [] m↔altsB m=true:=by
 rw[AGr_iff,altsB,Bool.and_eq_true,tagsApart_iff];simp
theorem altOk_iff(x:LAlt):altOk x=true↔(0<=x.tag∧x.tag<=255)∧0<=x.to∧x.to<=65535:=by
 simp only[altOk,Bool.and_eq_true,decide_eq_true_eq];omega
theorem rdAlts_iff:∀(n:Nat) (got:List LAlt) (p:Nat) (l:List LAlt) (q:Nat),rdAlts s n got p=.ok (l,q)↔∃m,l=got++m∧m.length=n∧AGr got m∧Bt s p (altBytes m)∧q=p+(altBytes m).length
 |0,got,p,l,q=>by
  simp only[rdAlts,Except.ok.injEq,Prod.mk.injEq];constructor
  ·rintro⟨rfl,rfl⟩;exact⟨[],by simp,rfl,trivial,Bt.nil,rfl⟩
  ·rintro⟨m,rfl,h,-,-,rfl⟩;obtain rfl:=List.length_eq_zero_iff.1 h;exact⟨by simp,rfl⟩
 |n+1,got,p,l,q=>by
  rw[rdAlts,bd_iff];constructor
  ·rintro⟨t,r,h1,h2⟩;obtain⟨k1,k2,rfl⟩:=(rdN_iff (by omega)).1 h1;cases ha:got.any (λx=>x.tag==(t:Int)) with
   |true=>rw[if_pos ha]at h2;cases h2
   |false=>
    rw[if_neg (by rw[ha];decide),bd_iff]at h2;obtain⟨u,r2,h3,h4⟩:=h2;obtain⟨k3,k4,rfl⟩:=(rdN_iff (by omega)).1 h3;obtain⟨m,rfl,rfl,hg,hb,rfl⟩:=(rdAlts_iff n _ _ _ _).1 h4;have he:altBytes (⟨t,u⟩::m)=vb t++(vb u++altBytes m):=by simp[altBytes]
    refine⟨⟨t,u⟩::m,by simp,rfl,⟨(altOk_iff _).2 ⟨⟨by simp,by simp;omega⟩,by simp,by simp;omega⟩,ha,hg⟩,?_,?_⟩
    ·rw[he];exact Bt.app.2 ⟨k2,Bt.app.2 ⟨k4,hb⟩⟩
    ·rw[he];simp only[List.length_append];omega
  ·rintro⟨m,rfl,hm,hg,hb,rfl⟩;match m,hm,hg with
   |⟨t,u⟩::m,hm,hg=>
    obtain⟨h1,h2,h3⟩:=hg;obtain⟨⟨a1,a2⟩,a3,a4⟩:=(altOk_iff _).1 h1;simp only at a1 a2 a3 a4;obtain⟨t,rfl⟩:=Int.eq_ofNat_of_zero_le a1;obtain⟨u,rfl⟩:=Int.eq_ofNat_of_zero_le a3;have he:altBytes (⟨t,u⟩::m)=vb t++(vb u++altBytes m):=by simp[altBytes]
    rw[he]at hb ⊢;obtain⟨b1,b2⟩:=Bt.app.1 hb;obtain⟨b2,b3⟩:=Bt.app.1 b2;refine⟨t,_,(rdN_iff (by omega)).2 ⟨by omega,b1,rfl⟩,?_⟩;rw[if_neg (by rw[h2];decide),bd_iff];refine⟨u,_,(rdN_iff (by omega)).2 ⟨by omega,b2,rfl⟩,(rdAlts_iff n _ _ _ _).2 ⟨m,by simp,by simpa using hm,h3,b3,?_⟩⟩;simp only[List.length_append];omega
theorem unf_fA{a:Int}:unf (fA a)=a:=by
 unfold unf fA;split<;>split<;>omega
theorem fA_unf{n:Nat}:fA (unf n)=n:=by
 unfold unf fA;split<;>split<;>omega
theorem fA_lt{a:Int}(h:-9223372036854775808<=a∧a<=9223372036854775807):fA a<18446744073709551616:=by
 unfold fA;split<;>omega
theorem unf_range{n:Nat}(h:n<18446744073709551616):-9223372036854775808<=unf n∧unf n<=9223372036854775807:=by
 unfold unf;split<;>omega
def IG(x:LIns):Prop:=insG x.op x.a x.alts=true∧-9223372036854775808<=x.a∧x.a<=9223372036854775807
theorem insG_nat(op:Nat)(h:op<21)(a:Int)(l:List LAlt):insG (op:Int) a l=(if rowN op 0=1 then (l.length:Int)==0 else if rowN op 0=2 then ((l.length:Int)==0) && decide (rowN op 1<=a) && decide (a<=rowN op 2) else if rowN op 0=3 then (a==0) && altsGood l else (a==0) && ((l.length:Int)==0)):=by
 unfold insG;rw[if_pos (by omega),Int.toNat_natCast]
theorem insG_opN{x:LIns}(h:insG x.op x.a x.alts=true):∃op:Nat,x.op=op∧op<21:=by
 unfold insG at h;split at h
 ·rename_i h1
  exact⟨x.op.toNat,by omega,by omega⟩
 ·cases h
theorem rdArg_iff{op p q:Nat}{x:LIns}(ho:op<21):rdArg s op p=.ok (x,q)↔(x.op=op∧IG x)∧Bt s p (wb x).tail∧q=p+(wb x).tail.length:=by
 have hf:=row_facts op ho;have hw:∀(a:Int) (l:List LAlt),(wb ⟨op,a,l⟩).tail=if op=0 then vb (fA a) else if op=17 then vb l.length++altBytes l else if rowN op 0=2 then vb a.toNat else []:=by
  intro a l;unfold wb;simp only[List.tail_cons,Int.toNat_natCast];by_cases h0:op=0
  ·rw[if_pos h0,if_pos (by omega)]
  ·rw[if_neg h0,if_neg (by omega)];by_cases h1:op=17
   ·rw[if_pos h1,if_pos (by omega)]
   ·rw[if_neg h1,if_neg (by omega)]
 unfold rdArg;obtain⟨xo,xa,xl⟩:=x;constructor
 ·intro h;split at h
  ·rename_i e1
   obtain⟨n,r,h1,h2⟩:=bd_iff.1 h;obtain⟨k1,k2,rfl⟩:=rdV_iff.1 h1;cases h2;have h0:op=0:=hf.2.2.2.2.1.1 e1;have hx:=hw (unf n) [];rw[if_pos h0,fA_unf]at hx;rw[hx];exact⟨⟨rfl,by show insG _ _ _=true;rw[insG_nat op ho,if_pos e1];rfl,unf_range k1⟩,k2,rfl⟩
  ·rename_i e1
   have h0:¬op=0:=λe=>e1 (hf.2.2.2.2.1.2 e);split at h
   ·rename_i e2
    obtain⟨n,r,h1,h2⟩:=bd_iff.1 h;obtain⟨k1,k2,rfl⟩:=(rdN_iff (by omega)).1 h1;cases h2;have h17:¬op=17:=λe=>by have:=hf.2.2.2.2.2.1.2 e;omega
    have hx:=hw n [];rw[if_neg h0,if_neg h17,if_pos e2,Int.toNat_natCast]at hx;rw[hx];refine⟨⟨rfl,?_,by show _<=(n:Int);omega,by show(n:Int)<=_;omega⟩,k2,rfl⟩;show insG _ _ _=true;rw[insG_nat op ho,if_neg e1,if_pos e2];simp;omega
   ·rename_i e2
    split at h
    ·rename_i e3
     obtain⟨n,r,h1,h2⟩:=bd_iff.1 h;obtain⟨k1,k2,rfl⟩:=(rdN_iff (by omega)).1 h1;obtain⟨l,r2,h3,h4⟩:=bd_iff.1 h2;obtain⟨m,rfl,rfl,hg,hb,rfl⟩:=(rdAlts_iff _ _ _ _ _).1 h3;cases h4;have hx:=hw 0 xl;rw[if_neg h0,if_pos (hf.2.2.2.2.2.1.1 e3)]at hx;rw[hx];refine⟨⟨rfl,?_,by show _<=(0:Int);omega,by show(0:Int)<=_;omega⟩,Bt.app.2 ⟨k2,hb⟩,by rw[List.length_append];omega⟩;show insG _ _ _=true;rw[insG_nat op ho,if_neg e1,if_neg e2,if_pos e3];simp only[altsGood,(AGr_nil _).1 hg];simp;omega
    ·rename_i e3
     cases h;have hx:=hw 0 [];rw[if_neg h0,if_neg (λe=>e3 (hf.2.2.2.2.2.1.2 e)),if_neg e2]at hx;rw[hx];refine⟨⟨rfl,?_,by show _<=(0:Int);omega,by show(0:Int)<=_;omega⟩,Bt.nil,rfl⟩;show insG _ _ _=true;rw[insG_nat op ho,if_neg e1,if_neg e2,if_neg e3];rfl
 ·rintro⟨⟨rfl,hG,hr⟩,hb,rfl⟩;simp only at hG hr;rw[hw]at hb ⊢;rw[insG_nat op ho]at hG;split
  ·rename_i e1
   have h0:op=0:=hf.2.2.2.2.1.1 e1;rw[if_pos e1]at hG;rw[if_pos h0]at hb ⊢;have hl:xl=[]:=by simpa using hG
   subst hl;refine bd_iff.2 ⟨fA xa,_,rdV_iff.2 ⟨fA_lt hr,hb,rfl⟩,?_⟩;rw[unf_fA]
  ·rename_i e1
   have h0:¬op=0:=λe=>e1 (hf.2.2.2.2.1.2 e);rw[if_neg e1]at hG;rw[if_neg h0]at hb ⊢;split
   ·rename_i e2
    have h17:¬op=17:=λe=>by have:=hf.2.2.2.2.2.1.2 e;omega
    rw[if_pos e2]at hG;rw[if_neg h17,if_pos e2]at hb;rw[if_neg h17];simp only[Bool.and_eq_true,decide_eq_true_eq]at hG;have hl:xl=[]:=by simpa using hG.1.1
    subst hl;obtain⟨a,rfl⟩:=Int.eq_ofNat_of_zero_le (show 0<=xa by omega);rw[Int.toNat_natCast]at hb ⊢;exact bd_iff.2 ⟨a,_,(rdN_iff (by omega)).2 ⟨by omega,hb,rfl⟩,rfl⟩
   ·rename_i e2
    rw[if_neg e2]at hG;split
    ·rename_i e3
     rw[if_pos e3]at hG;rw[if_pos (hf.2.2.2.2.2.1.1 e3)]at hb ⊢;simp only[altsGood,Bool.and_eq_true,decide_eq_true_eq]at hG;have ha:xa=0:=by simpa using hG.1
     subst ha;obtain⟨b1,b2⟩:=Bt.app.1 hb;refine bd_iff.2 ⟨xl.length,_,(rdN_iff (by omega)).2 ⟨by omega,b1,rfl⟩,bd_iff.2 ⟨xl,_,(rdAlts_iff _ _ _ _ _).2 ⟨xl,rfl,rfl,(AGr_nil _).2 hG.2.2,b2,rfl⟩,?_⟩⟩;rw[List.length_append,Nat.add_assoc]
    ·rename_i e3
     rw[if_neg e3]at hG;rw[if_neg (λe=>e3 (hf.2.2.2.2.2.1.2 e))];simp only[Bool.and_eq_true]at hG;have ha:xa=0:=by simpa using hG.1
     have hl:xl=[]:=by simpa using hG.2
     subst ha hl;rfl
theorem wb_split{x:LIns}{op:Nat}(h:x.op=op):wb x=op::(wb x).tail:=by
 unfold wb;rw[h,Int.toNat_natCast,List.tail_cons]
theorem rdIns_iff{p q:Nat}{x:LIns}:rdIns s p=.ok (x,q)↔IG x∧Bt s p (wb x)∧q=p+(wb x).length:=by
 unfold rdIns;rw[bd_iff];constructor
 ·rintro⟨op,r,h1,h2⟩;obtain⟨k1,k2,rfl⟩:=(rdN_iff (by omega)).1 h1;obtain⟨⟨e,hG⟩,hb,rfl⟩:=(rdArg_iff (by omega)).1 h2;rw[vb_small (by omega)]at k2 hb ⊢;refine⟨hG,?_,?_⟩
  ·rw[wb_split e];exact Bt.app.2 ⟨k2,hb⟩
  ·rw[wb_split e,List.tail_cons];simp only[List.length_cons,List.length_nil];omega
 ·rintro⟨hG,hb,rfl⟩;obtain⟨op,e,ho⟩:=insG_opN hG.1;rw[wb_split e]at hb;obtain⟨b1,b2⟩:=Bt.app (a:=[op]).1 hb;have hv:=vb_small (show op<128 by omega);refine⟨op,_,(rdN_iff (by omega)).2 ⟨by omega,by rw[hv];exact b1,rfl⟩,(rdArg_iff ho).2 ⟨⟨e,hG⟩,by rw[hv];exact b2,?_⟩⟩;rw[hv,wb_split e,List.tail_cons];simp only[List.length_cons,List.length_nil];omega
theorem rdCode_iff:∀(n:Nat) (got:List LIns) (p:Nat) (l:List LIns) (q:Nat),rdCode s n got p=.ok (l,q)↔∃m,l=got++m∧m.length=n∧(∀x∈m,IG x)∧Bt s p (m.flatMap wb)∧q=p+(m.flatMap wb).length
 |0,got,p,l,q=>by
  simp only[rdCode,Except.ok.injEq,Prod.mk.injEq];constructor
  ·rintro⟨rfl,rfl⟩;exact⟨[],by simp,rfl,(λ_ h=>by cases h),Bt.nil,rfl⟩
  ·rintro⟨m,rfl,h,-,-,rfl⟩;obtain rfl:=List.length_eq_zero_iff.1 h;exact⟨by simp,rfl⟩
 |n+1,got,p,l,q=>by
  rw[rdCode,bd_iff];constructor
  ·rintro⟨x,r,h1,h2⟩;obtain⟨k1,k2,rfl⟩:=rdIns_iff.1 h1;obtain⟨m,rfl,rfl,hg,hb,rfl⟩:=(rdCode_iff n _ _ _ _).1 h2;refine⟨x::m,by simp,rfl,λy hy=>?_,?_,?_⟩
   ·rcases List.mem_cons.1 hy with rfl|hy
    ·exact k1
    ·exact hg y hy
   ·rw[List.flatMap_cons];exact Bt.app.2 ⟨k2,hb⟩
   ·rw[List.flatMap_cons,List.length_append];omega
  ·rintro⟨m,rfl,hm,hg,hb,rfl⟩;match m,hm,hg with
   |x::m,hm,hg=>
    rw[List.flatMap_cons]at hb ⊢;obtain⟨b1,b2⟩:=Bt.app.1 hb;refine⟨x,_,rdIns_iff.2 ⟨hg x (by simp),b1,rfl⟩,(rdCode_iff n _ _ _ _).2 ⟨m,by simp,by simpa using hm,λy hy=>hg y (List.mem_cons_of_mem _ hy),b2,?_⟩⟩;rw[List.length_append];omega
end
section
variable {s:ByteArray}
theorem arB_iff{a:Int}:arB a=true↔0<=a∧a<=20:=by simp[arB]
theorem hasN_nil(t:ByteArray):hasN [] t=false:=rfl
theorem rdImps_iff:∀(n:Nat) (got:List LImp) (last:ByteArray) (p:Nat) (l:List LImp) (q:Nat),rdImps s n got last p=.ok (l,q)↔∃m,l=got++m∧m.length=n∧impsFrom last m=true∧Bt s p (m.flatMap ib)∧q=p+(m.flatMap ib).length
 |0,got,last,p,l,q=>by
  simp only[rdImps,Except.ok.injEq,Prod.mk.injEq];constructor
  ·rintro⟨rfl,rfl⟩;exact⟨[],by simp,rfl,rfl,Bt.nil,rfl⟩
  ·rintro⟨m,rfl,h,-,-,rfl⟩;obtain rfl:=List.length_eq_zero_iff.1 h;exact⟨by simp,rfl⟩
 |n+1,got,last,p,l,q=>by
  rw[rdImps,bd_iff];constructor
  ·rintro⟨t,r,h1,h2⟩;obtain⟨⟨g1,g2,-⟩,k2,rfl⟩:=rdNameB_iff.1 h1;obtain⟨a,r2,h3,h4⟩:=bd_iff.1 h2;obtain⟨k3,k4,rfl⟩:=(rdN_iff (by omega)).1 h3;obtain⟨m,rfl,rfl,hg,hb,rfl⟩:=(rdImps_iff n _ _ _ _ _).1 h4;have he:(⟨t,a⟩::m:List LImp).flatMap ib=nb t++(vb a++m.flatMap ib):=by rw[List.flatMap_cons,ib,Int.toNat_natCast,List.append_assoc]
   refine⟨⟨t,a⟩::m,by simp,rfl,?_,?_,?_⟩
   ·show(nmB t && gtB t last && arB a && impsFrom t m)=true;rw[g1,g2,hg,arB_iff.2 ⟨by omega,by omega⟩];rfl
   ·rw[he];exact Bt.app.2 ⟨k2,Bt.app.2 ⟨k4,hb⟩⟩
   ·rw[he];simp only[List.length_append];omega
  ·rintro⟨m,rfl,hm,hg,hb,rfl⟩;match m,hm,hg with
   |⟨t,a⟩::m,hm,hg=>
    have hg':(nmB t && gtB t last && arB a && impsFrom t m)=true:=hg;simp only[Bool.and_eq_true]at hg';obtain⟨⟨⟨g1,g2⟩,g3⟩,g4⟩:=hg';have ha:=arB_iff.1 g3;obtain⟨a,rfl⟩:=Int.eq_ofNat_of_zero_le ha.1;have he:(⟨t,a⟩::m:List LImp).flatMap ib=nb t++(vb a++m.flatMap ib):=by rw[List.flatMap_cons,ib,Int.toNat_natCast,List.append_assoc]
    rw[he]at hb ⊢;obtain⟨b1,b2⟩:=Bt.app.1 hb;obtain⟨b2,b3⟩:=Bt.app.1 b2;refine⟨t,_,rdNameB_iff.2 ⟨⟨g1,g2,hasN_nil t⟩,b1,rfl⟩,bd_iff.2 ⟨a,_,(rdN_iff (by omega)).2 ⟨by omega,b2,rfl⟩,(rdImps_iff n _ _ _ _ _).2 ⟨m,by simp,by simpa using hm,g4,b3,?_⟩⟩⟩;simp only[List.length_append];omega
def GG(g:LGlob):Prop:=arB g.arity=true∧codeG g.code=true∧∀x∈g.code,IG x
def gt'(g:LGlob):List Nat:=vb g.arity.toNat++([if g.exp then 1 else 0]++(vb g.code.length++g.code.flatMap wb))
theorem gb_eqR(g:LGlob):gb g=nb g.name++gt' g:=by unfold gb gt';simp only[List.append_assoc]
theorem codeG_of{l:List LIns}(h:l.length<=65535)(hi:∀x∈l,IG x):codeG l=true:=by
 unfold codeG;rw[Bool.and_eq_true];exact⟨decide_eq_true h,List.all_eq_true.2 λx hx=>(hi x hx).1⟩
theorem rdGlob_iff{t:ByteArray}{p q:Nat}{g:LGlob}:rdGlob s t p=.ok (g,q)↔(g.name=t∧GG g)∧Bt s p (gt' g)∧q=p+(gt' g).length:=by
 unfold rdGlob;rw[bd_iff];constructor
 ·rintro⟨a,r1,h1,h⟩;obtain⟨k1,b1,rfl⟩:=(rdN_iff (by omega)).1 h1;obtain⟨x,r2,h2,h⟩:=bd_iff.1 h;obtain⟨k2,b2,rfl⟩:=(rdN_iff (by omega)).1 h2;obtain⟨c,r3,h3,h⟩:=bd_iff.1 h;obtain⟨k3,b3,rfl⟩:=(rdN_iff (by omega)).1 h3;obtain⟨l,r4,h4,h⟩:=bd_iff.1 h;obtain⟨m,rfl,rfl,hg,hb,rfl⟩:=(rdCode_iff _ _ _ _ _).1 h4;simp only[Except.ok.injEq,Prod.mk.injEq]at h;obtain⟨rfl,rfl⟩:=h;have he:vb x=[if ((x:Int)==1)=true then 1 else 0]:=by
   rw[vb_small (by omega)];rcases(show x=0∨x=1 by omega) with rfl|rfl<;>rfl
  have hw:gt' ⟨t,a,(x:Int)==1,l⟩=vb a++(vb x++(vb l.length++l.flatMap wb)):=by unfold gt';rw[he];simp only[Int.toNat_natCast]
  refine⟨⟨rfl,arB_iff.2 ⟨by simp,by simp;omega⟩,codeG_of k3.2 hg,hg⟩,?_,?_⟩
  ·rw[hw];exact Bt.app.2 ⟨b1,Bt.app.2 ⟨b2,Bt.app.2 ⟨b3,hb⟩⟩⟩
  ·rw[hw];simp only[List.length_append];omega
 ·rintro⟨⟨rfl,h1,h2,h3⟩,hb,rfl⟩;obtain⟨nm,ar,ex,code⟩:=g;simp only at h1 h2 h3;have ha:=arB_iff.1 h1;obtain⟨a,rfl⟩:=Int.eq_ofNat_of_zero_le ha.1;have hc:code.length<=65535:=by
   simp only[codeG,Bool.and_eq_true,decide_eq_true_eq]at h2;exact h2.1
  have he:vb (if ex then 1 else 0)=[if ex then 1 else 0]:=vb_small (by split<;>omega);have hw:gt' ⟨nm,a,ex,code⟩=vb a++(vb (if ex then 1 else 0)++(vb code.length++code.flatMap wb)):=by unfold gt';rw[he];simp only[Int.toNat_natCast]
  rw[hw]at hb ⊢;obtain⟨b1,hb⟩:=Bt.app.1 hb;obtain⟨b2,hb⟩:=Bt.app.1 hb;obtain⟨b3,b4⟩:=Bt.app.1 hb;refine⟨a,_,(rdN_iff (by omega)).2 ⟨by omega,b1,rfl⟩,bd_iff.2 ⟨if ex then 1 else 0,_,(rdN_iff (by omega)).2 ⟨by split<;>omega,b2,rfl⟩,bd_iff.2 ⟨code.length,_,(rdN_iff (by omega)).2 ⟨by omega,b3,rfl⟩,bd_iff.2 ⟨code,_,(rdCode_iff _ _ _ _ _).2 ⟨code,rfl,rfl,h3,b4,rfl⟩,?_⟩⟩⟩⟩;simp only[Except.ok.injEq,Prod.mk.injEq,List.length_append];refine⟨?_,by omega⟩;cases ex<;>rfl
theorem rdGlobs_iff{imps:List LImp}:∀(n:Nat) (got:List LGlob) (last:ByteArray) (p:Nat) (l:List LGlob) (q:Nat),rdGlobs s imps n got last p=.ok (l,q)↔∃m,l=got++m∧m.length=n∧(globsFrom imps last m=true∧∀g∈m,∀x∈g.code,IG x)∧Bt s p (m.flatMap gb)∧q=p+(m.flatMap gb).length
 |0,got,last,p,l,q=>by
  simp only[rdGlobs,Except.ok.injEq,Prod.mk.injEq];constructor
  ·rintro⟨rfl,rfl⟩;exact⟨[],by simp,rfl,⟨rfl,(λ_ h=>by cases h)⟩,Bt.nil,rfl⟩
  ·rintro⟨m,rfl,h,-,-,rfl⟩;obtain rfl:=List.length_eq_zero_iff.1 h;exact⟨by simp,rfl⟩
 |n+1,got,last,p,l,q=>by
  rw[rdGlobs,bd_iff];constructor
  ·rintro⟨t,r,h1,h2⟩;obtain⟨⟨g1,g2,g3⟩,k2,rfl⟩:=rdNameB_iff.1 h1;obtain⟨g,r2,h3,h4⟩:=bd_iff.1 h2;obtain⟨⟨rfl,a1,a2,a3⟩,k4,rfl⟩:=rdGlob_iff.1 h3;obtain⟨m,rfl,rfl,⟨hg,hi⟩,hb,rfl⟩:=(rdGlobs_iff n _ _ _ _ _).1 h4;have he:(g::m:List LGlob).flatMap gb=nb g.name++(gt' g++m.flatMap gb):=by rw[List.flatMap_cons,gb_eqR,List.append_assoc]
   refine⟨g::m,by simp,rfl,⟨?_,λy hy=>?_⟩,?_,?_⟩
   ·show(nmB g.name && gtB g.name last && !hasN imps g.name && arB g.arity && codeG g.code && globsFrom imps g.name m)=true;rw[g1,g2,g3,a1,a2,hg];rfl
   ·rcases List.mem_cons.1 hy with rfl|hy
    ·exact a3
    ·exact hi y hy
   ·rw[he];exact Bt.app.2 ⟨k2,Bt.app.2 ⟨k4,hb⟩⟩
   ·rw[he];simp only[List.length_append];omega
  ·rintro⟨m,rfl,hm,hg,hb,rfl⟩;match m,hm,hg with
   |g::m,hm,⟨hg,hi⟩=>
    have hg':(nmB g.name && gtB g.name last && !hasN imps g.name && arB g.arity && codeG g.code && globsFrom imps g.name m)=true:=hg;simp only[Bool.and_eq_true,Bool.not_eq_true']at hg';obtain⟨⟨⟨⟨⟨g1,g2⟩,g3⟩,g4⟩,g5⟩,g6⟩:=hg';have he:(g::m:List LGlob).flatMap gb=nb g.name++(gt' g++m.flatMap gb):=by rw[List.flatMap_cons,gb_eqR,List.append_assoc]
    rw[he]at hb ⊢;obtain⟨b1,b2⟩:=Bt.app.1 hb;obtain⟨b2,b3⟩:=Bt.app.1 b2;refine⟨g.name,_,rdNameB_iff.2 ⟨⟨g1,g2,g3⟩,b1,rfl⟩,bd_iff.2 ⟨g,_,rdGlob_iff.2 ⟨⟨rfl,g4,g5,hi g (by simp)⟩,b2,rfl⟩,(rdGlobs_iff n _ _ _ _ _).2 ⟨m,by simp,by simpa using hm,⟨g6,λy hy=>hi y (List.mem_cons_of_mem _ hy)⟩,b3,?_⟩⟩⟩;simp only[List.length_append];omega
theorem getD_tb(k:Nat):(s.data.toList.getD k 0).toNat=(tb s).getD k 0:=by
 simp only[tb,List.getD_eq_getElem?_getD,List.getElem?_map];cases s.data.toList[k]?<;>rfl
theorem bA0:bA s 0=tb s:=rfl
theorem rdMark_iff{q:Nat}:rdMark s 4 0=.ok ((),q)↔Bt s 0 [84,65,82,78]∧q=4:=by
 have h4:rdMark s 4 0=if (tb s).getD 0 0=84 then if (tb s).getD 1 0=65 then if (tb s).getD 2 0=82 then if (tb s).getD 3 0=78 then .ok ((),4) else .error (8,3) else .error (8,2) else .error (8,1) else .error (8,0):=by
  simp only[rdMark,getD_tb];rfl
 rw[h4];unfold Bt;rw[bA0];constructor
 ·intro h;split at h
  ·split at h
   ·split at h
    ·split at h
     ·cases h;refine⟨?_,rfl⟩;rename_i e0 e1 e2 e3
      match tb s,e0,e1,e2,e3 with
      |[],e0,_,_,_=>simp at e0
      |[_],_,e1,_,_=>simp at e1
      |[_,_],_,_,e2,_=>simp at e2
      |[_,_,_],_,_,_,e3=>simp at e3
      |a::b::c::d::r,e0,e1,e2,e3=>
       simp at e0 e1 e2 e3;exact⟨r,by rw[e0,e1,e2,e3];rfl⟩
     ·cases h
    ·cases h
   ·cases h
  ·cases h
 ·rintro⟨⟨r,h⟩,rfl⟩;rw[h];rfl
theorem hb_split(O:LObj):hb O=[84,65,82,78]++(nb O.name++(vb O.imps.length++(O.imps.flatMap ib++(vb O.globs.length++O.globs.flatMap gb)))):=by unfold hb hdB;simp only[List.append_assoc]
theorem rdObj_iff{O:LObj}{q:Nat}(hs:s.size<18446744073709551616):rdObj s=.ok (O,q)↔(valsG O=true∧∀g∈O.globs,∀x∈g.code,IG x)∧tb s=hb O∧q=s.size:=by
 unfold rdObj;rw[bd_iff];constructor
 ·rintro⟨_,p,h1,h⟩;obtain⟨b1,rfl⟩:=rdMark_iff.1 h1;obtain⟨nm,p,h2,h⟩:=bd_iff.1 h;obtain⟨k2,b2,rfl⟩:=rdName_iff.1 h2;obtain⟨n,p,h3,h⟩:=bd_iff.1 h;obtain⟨k3,b3,rfl⟩:=rdV_iff.1 h3;obtain⟨is,p,h4,h⟩:=bd_iff.1 h;obtain⟨m,rfl,rfl,k4,b4,rfl⟩:=(rdImps_iff _ _ _ _ _ _).1 h4;obtain⟨n2,p,h5,h⟩:=bd_iff.1 h;obtain⟨k5,b5,rfl⟩:=rdV_iff.1 h5;obtain⟨gs,p,h6,h⟩:=bd_iff.1 h;obtain⟨m2,rfl,rfl,⟨k6,k7⟩,b6,rfl⟩:=(rdGlobs_iff _ _ _ _ _ _).1 h6;split at h
  ·cases h
  ·rename_i hp
   simp only[Except.ok.injEq,Prod.mk.injEq]at h;obtain⟨rfl,rfl⟩:=h;have hB:Bt s 0 (hb ⟨nm,is,gs⟩):=by
    rw[hb_split];refine Bt.app.2 ⟨b1,?_⟩;rw[Nat.zero_add];exact Bt.app.2 ⟨b2,Bt.app.2 ⟨b3,Bt.app.2 ⟨b4,Bt.app.2 ⟨b5,b6⟩⟩⟩⟩
   have hl:(hb ⟨nm,is,gs⟩).length=4+(nb nm).length+(vb is.length).length+(is.flatMap ib).length+(vb gs.length).length+(gs.flatMap gb).length:=by
    rw[hb_split];simp only[List.length_append,List.length_cons,List.length_nil];omega
   have hle:=hB.le (Nat.zero_le _);obtain⟨r,hr⟩:=hB;rw[bA0]at hr;have hr0:r=[]:=by
    have:=congrArg List.length hr;rw[tb_len,List.length_append]at this;exact List.length_eq_zero_iff.1 (by omega)
   rw[hr0,List.append_nil]at hr;refine⟨⟨?_,k7⟩,hr,by omega⟩;show(nmB nm && impsFrom _ is && globsFrom is _ gs)=true;rw[k2,k4,k6];rfl
 ·rintro⟨⟨hV,hI⟩,ht,rfl⟩;have hB:Bt s 0 (hb O):=⟨[],by rw[bA0,ht,List.append_nil]⟩;have hlen:s.size=(hb O).length:=by rw[<-ht,tb_len]
  have hl:(hb O).length=4+(nb O.name).length+(vb O.imps.length).length+(O.imps.flatMap ib).length+(vb O.globs.length).length+(O.globs.flatMap gb).length:=by
   rw[hb_split];simp only[List.length_append,List.length_cons,List.length_nil];omega
  have hl1:∀l:List LImp,l.length<=(l.flatMap ib).length:=λl=>by
   induction l with
   |nil=>simp
   |cons a r ih=>
    rw[List.flatMap_cons,List.length_append,List.length_cons];have:=vb_pos a.arity.toNat;have hi:(ib a).length=(nb a.name).length+(vb a.arity.toNat).length:=by unfold ib;rw[List.length_append]
    omega
  have hl2:∀l:List LGlob,l.length<=(l.flatMap gb).length:=λl=>by
   induction l with
   |nil=>simp
   |cons a r ih=>
    rw[List.flatMap_cons,List.length_append,List.length_cons];have:=vb_pos a.arity.toNat;have hi:(vb a.arity.toNat).length<=(gb a).length:=by rw[gb_eqR,List.length_append];unfold gt';rw[List.length_append];omega
    omega
  have m1:=hl1 O.imps;have m2:=hl2 O.globs;rw[hb_split]at hB;obtain⟨b1,hB⟩:=Bt.app.1 hB;obtain⟨b2,hB⟩:=Bt.app.1 hB;obtain⟨b3,hB⟩:=Bt.app.1 hB;obtain⟨b4,hB⟩:=Bt.app.1 hB;obtain⟨b5,b6⟩:=Bt.app.1 hB;have hV':(nmB O.name && impsFrom ⟨#[]⟩ O.imps && globsFrom O.imps ⟨#[]⟩ O.globs)=true:=hV;simp only[Bool.and_eq_true]at hV';refine⟨(),_,rdMark_iff.2 ⟨b1,rfl⟩,bd_iff.2 ⟨O.name,_,rdName_iff.2 ⟨hV'.1.1,b2,rfl⟩,bd_iff.2 ⟨O.imps.length,_,rdV_iff.2 ⟨by omega,b3,rfl⟩,bd_iff.2 ⟨O.imps,_,(rdImps_iff _ _ _ _ _ _).2 ⟨O.imps,rfl,rfl,hV'.1.2,b4,rfl⟩,bd_iff.2 ⟨O.globs.length,_,rdV_iff.2 ⟨by omega,b5,rfl⟩,bd_iff.2 ⟨O.globs,_,(rdGlobs_iff _ _ _ _ _ _).2 ⟨O.globs,rfl,rfl,⟨hV'.2,hI⟩,b6,rfl⟩,?_⟩⟩⟩⟩⟩⟩;have hq:4+(nb O.name).length+(vb O.imps.length).length+(O.imps.flatMap ib).length+(vb O.globs.length).length+(O.globs.flatMap gb).length=s.size:=by omega
  rw[if_neg (by omega),hq]
end
end Go.Proofs.YtblobglfjhilmaaGreatDoor
namespace Go.Proofs.YtblobglfjhilmaaGreatDoor
open Go.RowKit Go.Sort Go.Lib
structure WExt (P:Nat) (w w':World) (vo v:Value):Prop where
 os:w'.os=w.os
 tape:w'.tape=w.tape
 output:w'.output=w.output
 size:w.heap.size<=w'.heap.size
 block:∀k,k<w.heap.size->k≠P->some k≠vo.ownBlock->w'.heap[k]?=w.heap[k]?
 moved:v.ownBlock=vo.ownBlock∨∃k,v.ownBlock=some k∧w.heap.size<=k
theorem WExt.refl(P:Nat)(w:World)(v:Value):WExt P w w v v:=⟨rfl,rfl,rfl,Nat.le_refl _,λ_ _ _ _=>rfl,Or.inl rfl⟩
theorem WExt.of_below{P:Nat}{w w':World}(h:Below w.heap.size w w')(v:Value):WExt P w w' v v:=⟨h.os,h.tape,h.output,h.size,λk hk _ _=>h.block k hk,Or.inl rfl⟩
theorem WExt.trans{P:Nat}{w w1 w2:World}{v0 v1 v2:Value}(h:WExt P w w1 v0 v1)(k:WExt P w1 w2 v1 v2):WExt P w w2 v0 v2:=by
 refine⟨k.os.trans h.os,k.tape.trans h.tape,k.output.trans h.output,Nat.le_trans h.size k.size,λb hb hP hne=>?_,?_⟩
 ·rw[k.block b (Nat.lt_of_lt_of_le hb h.size) hP ?_,h.block b hb hP hne];rcases h.moved with e|⟨j,e,hj⟩
  ·rw[e];exact hne
  ·rw[e];intro e2;simp at e2;omega
 ·rcases k.moved with e|⟨j,e,hj⟩
  ·rcases h.moved with e1|⟨j,e1,hj⟩
   ·exact Or.inl (e.trans e1)
   ·exact Or.inr ⟨j,e.trans e1,hj⟩
  ·exact Or.inr ⟨j,e,Nat.le_trans h.size hj⟩
theorem WExt.cell{P:Nat}{w w':World}{vo v u:Value}{b j:Nat}(h:WExt P w w' vo v)(hc:w.cell? ⟨b,j,none⟩=some u)(hP:b≠P)(hne:vo.ownBlock≠some b):w'.cell? ⟨b,j,none⟩=some u:=by
 rw[<-hc];exact World.cell?_of_block (h.block b (block_lt_of_cell hc) hP (λe=>hne e.symm))
theorem WExt.ne{P:Nat}{W w':World}{v0 v:Value}{b:Nat}(h:WExt P W w' v0 v)(hb:b<W.heap.size)(hne:v0.ownBlock≠some b):v.ownBlock≠some b:=by
 rcases h.moved with e|⟨k,e,hk⟩
 ·rw[e];exact hne
 ·rw[e];intro e2;simp at e2;omega
theorem WExt.below{P:Nat}{w w':World}{vo v:Value}{B:Nat}(h:WExt P w w' vo v)(hB:B<=w.heap.size)(hP:B<=P)(hr:∀k,vo.ownBlock=some k->B<=k):Below B w w':=
 ⟨h.os,h.tape,h.output,h.size,λk hk=>h.block k (by omega) (by omega) (λe=>by have:=hr k e.symm;omega)⟩
def WInv(bs full:List Nat):Prop:=bs=full∨(100000<bs.length∧100000<full.length)
theorem WInv.more{bs full:List Nat}(h:WInv bs full)(c:List Nat)(hl:bs.length<=100000):WInv (bs++c) (full++c):=by
 rcases h with rfl|h
 ·exact Or.inl rfl
 ·omega
theorem WInv.stop{bs full:List Nat}(h:WInv bs full)(c:List Nat)(hl:100000<bs.length):WInv bs (full++c):=by
 right
 rcases h with rfl|h
 ·exact⟨hl,by rw[List.length_append];omega⟩
 ·exact⟨hl,by rw[List.length_append];omega⟩
structure WS (w:World) (P B:Nat) (v:Value) (full:List Nat):Prop where
 c:w.cell? ⟨P,0,none⟩=some v
 f:w.frozen? ⟨P,0,none⟩=false
 lt:P<B
 le:B<=w.heap.size
 bs:∃bs,Buf w B v bs∧WInv bs full∧bs.length<=100020
def WRes(P B:Nat)(w:World)(v:Value)(full:List Nat)(e:Ending)(w':World):Prop:=∃v',e=.returned (.tuple #[])∧WS w' P B v' full∧WExt P w w' v v'
theorem wstep{wB X w2:World}{P B g n cap:Nat}{v:Value}{bs M:List Nat}(hc:wB.cell? ⟨P,0,none⟩=some v)(hf:wB.frozen? ⟨P,0,none⟩=false)(hPB:P<B)(hX:Below wB.heap.size wB X)(hBuf:Buf wB B v bs)
 (hown:w2.ownsRow B 5 1 (.slice (some ⟨g,0,none⟩) n cap) n (u8s bs++u8s M)) (hn:n=bs.length+M.length) (hgrow:X.grownBy w2 v.ownBlock) (hat:v.ownBlock=some g∨g=X.heap.size):
 (w2.cell? ⟨P,0,none⟩=some v∧w2.frozen? ⟨P,0,none⟩=false)∧((w2.setCell ⟨P,0,none⟩ (.slice (some ⟨g,0,none⟩) n cap)).cell? ⟨P,0,none⟩=some (.slice (some ⟨g,0,none⟩) n cap)∧(w2.setCell ⟨P,0,none⟩ (.slice (some ⟨g,0,none⟩) n cap)).frozen? ⟨P,0,none⟩=false)∧
 Buf (w2.setCell ⟨P,0,none⟩ (.slice (some ⟨g,0,none⟩) n cap)) B (.slice (some ⟨g,0,none⟩) n cap) (bs++M)∧WExt P wB (w2.setCell ⟨P,0,none⟩ (.slice (some ⟨g,0,none⟩) n cap)) v (.slice (some ⟨g,0,none⟩) n cap):=by
 have hP:P<wB.heap.size:=block_lt_of_cell hc;have hne:some P≠v.ownBlock:=λe=>by have:=(hBuf.base P e.symm).1;omega
 have e1:w2.cell? ⟨P,0,none⟩=some v:=by
  rw[hgrow.cell_far ⟨P,0,none⟩ (Nat.lt_of_lt_of_le hP hX.size) hne];exact cell_keep hX hc
 have e2:w2.frozen? ⟨P,0,none⟩=false:=by
  rw[hgrow.frozen_far ⟨P,0,none⟩ (Nat.lt_of_lt_of_le hP hX.size) hne,hX.frozen hP];exact hf
 refine⟨⟨e1,e2⟩,⟨World.cell?_setCell_same _ _ _ e1,by rw[World.frozen?_setCell];exact e2⟩,?_,?_⟩
 ·subst hn;have h:=ownsRow_setCell_below hown (a:=⟨P,0,none⟩) hPB (.slice (some ⟨g,0,none⟩) (bs.length+M.length) cap);unfold Buf;rw[List.length_append,u8s_app];exact h
 ·refine⟨hgrow.os.trans hX.os,hgrow.tape.trans hX.tape,hgrow.output.trans hX.output,by simp;exact Nat.le_trans hX.size hgrow.size,λk hk hkP hke=>?_,?_⟩
  ·rw[Below.heap_setCell _ _ _ _ hkP,hgrow.block k (Nat.lt_of_lt_of_le hk hX.size) hke,hX.block k hk]
  ·rcases hat with e|rfl
   ·exact Or.inl e.symm
   ·exact Or.inr ⟨_,rfl,hX.size⟩
theorem number_any(x P B:Nat)(v:Value)(full:List Nat)(w:World)(hx:x<18446744073709551616)(hW:WS w P B v full):
 Calls Tryz.prog 143 #[.pointer (some ⟨P,0,none⟩),.int .u64 x] w λe w'=>WRes P B w v (full++vb x) e w':=by
 obtain⟨i,hi,hii⟩:=Option.map_eq_some_iff.1 Tryz.u8Info;simp only[Prod.mk.injEq]at hii;obtain⟨hz0,hz1,hz2⟩:=hii;obtain⟨c0,f0,lt0,le0,bs,hB,hI,hl⟩:=hW;obtain⟨p,c,rfl⟩:=hB.slice;have HB:=hid hB;have HI:=hid hI;have hL:bs.length=bs.length:=rfl;generalize hLL:bs.length=L at*;have HLL:=hid hLL;clear hB hI hLL hL;by_cases hbig:L<=100000
 ·have hbig':¬(100000:Int)<(L:Int):=by omega
  go_enter Tryz.func143,Tryz.ntmps143;go_wp2;go_loopw [1] (λxv wr=>∃(m:Nat) (pre:List Nat) (p':Option Addr) (n' c':Nat),xv=.int .u64 m∧m<18446744073709551616∧n'<=100010∧wr.cell? ⟨P,0,none⟩=some (.slice p' n' c')∧wr.frozen? ⟨P,0,none⟩=false∧Hid (pre++vb m=vb x∧Buf wr B (.slice p' n' c') (bs++pre)∧n'=(bs++pre).length∧WExt P w wr (.slice p L c) (.slice p' n' c'))) (λxv _=>(intOf xv).toNat)
  case atStart=>exact⟨x,[],p,L,c,rfl,hx,by omega,c0,f0,rfl,by simpa using HB.out,by simp[HLL.out],WExt.refl _ _ _⟩
  case round=>
   obtain⟨m,pre,p',n',c',rfl,hm,hn',d0,e0,HK⟩:=hrel;rename World=>wB
   obtain⟨hv,hBf,hnl,hE⟩:=id HK.out;have hsz:=hE.size;have HBf:=hid hBf;have HNL:=hid hnl;by_cases hlt:m<128
   ·have hlt':(m:Int)<128:=by omega
    have hpl:pre.length<=9:=by
     have:=vb_len10 x hx;rw[<-hv,vb_small hlt,List.length_append]at this;simp at this;omega
    clear hv hBf hnl hE;go_wp2_with (first
     |(at_builtin;refine wpList_append_lies _ rfl (.tmp 31) (.tmp 34) 94 rfl B 5 i _ 1 1 Tryz.underlying94 hi hz0 hz1 hz2 rfl (by omega) (.slice p' n' c') n' (u8s (bs++pre)) rfl (by have h:=HBf.out;unfold Buf at h;rw[<-HNL.out]at h;exact h.alloc _) ⟨wB.heap.size,0,none⟩ 1 1 [.int .u8 (m:Int)] rfl rfl (World.news_of_block (heap_alloc_new _ _)) (by intro u hu;simp at hu;subst hu;rfl) (by omega) (by unfold maxLen;omega) (by omega) (by simp;omega) _ rfl ?_;intro g2 k2 w2 hown hgrow hat hlt1;have hst:=wstep (M:=[m]) d0 e0 lt0 ((Below.refl _ _).alloc (Nat.le_refl _) _) HBf.out hown (by rw[HNL.out];rfl) hgrow hat;obtain⟨⟨d1,e1⟩,⟨d2,e2⟩,hB2,hE2⟩:=hst;have HB2:=hid hB2;have HE2:=hid hE2;clear hB2 hE2 hown hgrow hat d0 e0))
    refine bE ?_;refine⟨_,rfl,⟨d2,e2,lt0,by have:=HE2.out.size;omega,bs++pre++[m],HB2.out,?_,?_⟩,HK.out.2.2.2.trans HE2.out⟩
    ·have h:=HK.out.1;rw[vb_small hlt]at h;rw[List.append_assoc,h];exact HI.out.more _ (by rw[HLL.out];exact hbig)
    ·rw[List.length_append,List.length_append,HLL.out];simp;omega
   ·have hlt':¬(m:Int)<128:=by omega
    have hpl:pre.length<=8:=by
     have:=vb_len10 x hx;rw[<-hv,vb_big hlt,List.length_append,List.length_cons]at this;have h2:=vb_pos (m / 128);omega
    clear hv hBf hnl hE;go_wp2_with (first
     |(at_builtin;refine wpList_append_lies _ rfl (.tmp 16) (.tmp 21) 94 rfl B 5 i _ 1 1 Tryz.underlying94 hi hz0 hz1 hz2 rfl (by omega) (.slice p' n' c') n' (u8s (bs++pre)) rfl (by have h:=HBf.out;unfold Buf at h;rw[<-HNL.out]at h;exact h.alloc _) ⟨wB.heap.size,0,none⟩ 1 1 [.int .u8 ((m:Int) % 128+128)] rfl rfl (World.news_of_block (heap_alloc_new _ _)) (by intro u hu;simp at hu;subst hu;rfl) (by omega) (by unfold maxLen;omega) (by omega) (by simp;omega) _ rfl ?_;intro g2 k2 w2 hown hgrow hat hlt1;have hst:=wstep (M:=[m % 128+128]) d0 e0 lt0 ((Below.refl _ _).alloc (Nat.le_refl _) _) HBf.out (by simpa[u8s]using hown) (by rw[HNL.out];rfl) hgrow hat;obtain⟨⟨d1,e1⟩,⟨d2,e2⟩,hB2,hE2⟩:=hst;have HB2:=hid hB2;have HE2:=hid hE2;clear hB2 hE2 hown hgrow hat d0 e0))
    refine⟨⟨m / 128,pre++[m % 128+128],some ⟨g2,0,none⟩,n'+1,k2,by simp,by omega,?_,d2,e2,?_,?_,?_,HK.out.2.2.2.trans HE2.out⟩,by simp[intOf];omega⟩
    ·have h:=HNL.out;rw[List.length_append,HLL.out]at h;omega
    ·have h:=HK.out.1;rw[vb_big hlt]at h;simpa using h
    ·simpa[List.append_assoc]using HB2.out
    ·have h:=HNL.out;simp only[List.length_append,List.length_cons,List.length_nil]at h ⊢;omega
 ·have hbig':(100000:Int)<(L:Int):=by omega
  go_enter Tryz.func143,Tryz.ntmps143;go_wp2;refine bE ?_;exact⟨_,rfl,⟨c0,f0,lt0,le0,bs,HB.out,HI.out.stop _ (by rw[HLL.out];omega),by rw[HLL.out];exact hl⟩,WExt.refl _ _ _⟩
theorem text_any(s:ByteArray)(P B:Nat)(v:Value)(full:List Nat)(w:World)(hs:s.size<=16)(hv:full≠[])(hW:WS w P B v full):
 Calls Tryz.prog 91 #[.pointer (some ⟨P,0,none⟩),.string s] w λe w'=>WRes P B w v (full++tb s) e w':=by
 obtain⟨i,hi,hii⟩:=Option.map_eq_some_iff.1 Tryz.u8Info;simp only[Prod.mk.injEq]at hii;obtain⟨hz0,hz1,hz2⟩:=hii;obtain⟨c0,f0,lt0,le0,bs,hB,hI,hl⟩:=hW;have hbp:0<bs.length:=by
  rcases hI with rfl|h
  ·exact List.length_pos_iff.2 hv
  ·omega
 obtain⟨g,c,rfl,hg1,-⟩:=World.ownsRow.form hB hbp;have hB':Buf w B (.slice (some ⟨g,0,none⟩) bs.length c) bs:=hB;have HI:=hid hI;have HTS:=hid (u8s_tb s);have HTL:=hid (tb_len s);clear hB hI;generalize hLL:bs.length=L at*;have HLL:=hid hLL;have HB:=hid hB';clear hB' hLL hv;by_cases hbig:L<=100000
 ·have hbig':¬(100000:Int)<(L:Int):=by omega
  go_enter Tryz.func91,Tryz.ntmps91;go_wp2_with (first
   |(at_builtin;refine wpList_str_lies _ rfl (.tmp 14) (.tmp 15) 94 9 rfl B 5 i Tryz.underlying94 Tryz.underlying9 hi hz0 hz1 hz2 g L c (u8s bs) rfl (by have h:=HB.out;unfold Buf at h;rw[HLL.out]at h;exact h) s rfl (by omega) (by omega) (by omega) ?_;intro g2 k2 w2 hown hgrow hat;have hst:=wstep (M:=tb s) c0 f0 lt0 (Below.refl _ _) HB.out (by rw[HTS.out];exact hown) (by rw[HLL.out,HTL.out]) hgrow (by rcases hat with rfl|rfl;exact Or.inl rfl;exact Or.inr rfl);obtain⟨⟨d1,e1⟩,⟨d2,e2⟩,hB2,hE2⟩:=hst;have HB2:=hid hB2;have HE2:=hid hE2;clear hB2 hE2 hown hgrow hat c0 f0))
  refine bE ?_;refine⟨_,rfl,⟨d2,e2,lt0,by have:=HE2.out.size;omega,bs++tb s,HB2.out,HI.out.more _ (by rw[HLL.out];exact hbig),by rw[List.length_append,HLL.out,HTL.out];omega⟩,HE2.out⟩
 ·have hbig':(100000:Int)<(L:Int):=by omega
  go_enter Tryz.func91,Tryz.ntmps91;go_wp2;refine bE ?_;exact⟨_,rfl,⟨c0,f0,lt0,le0,bs,HB.out,HI.out.stop _ (by rw[HLL.out];omega),by rw[HLL.out];exact hl⟩,WExt.refl _ _ _⟩
theorem text_first(s:ByteArray)(P B:Nat)(w:World)(hs:s.size<=16)(hp:0<s.size)(c0:w.cell? ⟨P,0,none⟩=some (.slice none 0 0))(f0:w.frozen? ⟨P,0,none⟩=false)(lt0:P<B)(le0:B<=w.heap.size):
 Calls Tryz.prog 91 #[.pointer (some ⟨P,0,none⟩),.string s] w λe w'=>WRes P B w (.slice none 0 0) (tb s) e w':=by
 obtain⟨i,hi,hii⟩:=Option.map_eq_some_iff.1 Tryz.u8Info;simp only[Prod.mk.injEq]at hii;obtain⟨hz0,hz1,hz2⟩:=hii;have HTS:=hid (u8s_tb s);have HTL:=hid (tb_len s);have HBN:Hid (Buf w w.heap.size (.slice none 0 0) []):=⟨rfl,Or.inl ⟨rfl,rfl⟩⟩;have HP:=hid (block_lt_of_cell c0);go_enter Tryz.func91,Tryz.ntmps91;go_wp2_with (first
  |(at_builtin;refine wpList_append_own_string _ rfl (.tmp 14) (.tmp 15) 94 9 rfl w.heap.size 5 i Tryz.underlying94 Tryz.underlying9 hi hz0 hz1 hz2 (.slice none 0 0) 0 [] rfl ⟨rfl,Or.inl ⟨rfl,rfl⟩⟩ s rfl (by unfold maxLen;omega) (by omega) (Nat.le_refl _) ?_;intro v2 w2 hown hgrow hnil;simp only[Nat.zero_add,List.nil_append]at hown;obtain⟨g2,k2,rfl,hg2,-⟩:=hown.form hp;have d1:w2.cell? ⟨P,0,none⟩=some (.slice none 0 0):=(by rw[hgrow.cell_far ⟨P,0,none⟩ HP.out (by simp[Value.ownBlock])];exact c0);have e1:w2.frozen? ⟨P,0,none⟩=false:=(by rw[hgrow.frozen_far ⟨P,0,none⟩ HP.out (by simp[Value.ownBlock])];exact f0);have HG2:=hid hg2;have HOW:=hid hown;have HGR:=hid hgrow;clear hown hgrow hnil))
 refine bE ?_;have hBf:Buf (w2.setCell ⟨P,0,none⟩ (.slice (some ⟨g2,0,none⟩) s.size k2)) B (.slice (some ⟨g2,0,none⟩) s.size k2) (tb s):=by
  have h:=ownsRow_setCell_below HOW.out (a:=⟨P,0,none⟩) HP.out (.slice (some ⟨g2,0,none⟩) s.size k2);have h2:Buf (w2.setCell ⟨P,0,none⟩ (.slice (some ⟨g2,0,none⟩) s.size k2)) w.heap.size (.slice (some ⟨g2,0,none⟩) s.size k2) (tb s):=by
   unfold Buf;rw[HTL.out,HTS.out];exact h
  exact h2.low le0
 refine⟨_,rfl,⟨World.cell?_setCell_same _ _ _ d1,by rw[World.frozen?_setCell];exact e1,lt0,by have:=HGR.out.size;simp;omega,tb s,hBf,Or.inl rfl,by rw[HTL.out];omega⟩,?_⟩;refine⟨HGR.out.os,HGR.out.tape,HGR.out.output,by simp;exact HGR.out.size,λk hk hkP hke=>?_,Or.inr ⟨g2,rfl,HG2.out⟩⟩;rw[Below.heap_setCell _ _ _ _ hkP,HGR.out.block k hk (by simp[Value.ownBlock])]
theorem count_any(n P B:Nat)(v:Value)(full:List Nat)(w:World)(hn:n<9223372036854775808)(hW:WS w P B v full):
 Calls Tryz.prog 93 #[.pointer (some ⟨P,0,none⟩),.int .i64 n] w λe w'=>WRes P B w v (full++vb n) e w':=by
 have HW:=hid (λw hW=>number_any n P B v full w (by omega) hW);have HS:=hid hW;clear hW;go_enter Tryz.func93,Tryz.ntmps93;go_wp2_with (first
  |(go_at_call 143;refine(HW.out _ HS.out).mono ?_;rintro e w1 ⟨v1,rfl,hS1,hE1⟩;have HS1:=hid hS1;have HE1:=hid hE1;clear hS1 hE1))
 refine bE ?_;exact⟨_,rfl,HS1.out,HE1.out⟩
theorem wname_any(s:ByteArray)(P B:Nat)(v:Value)(full:List Nat)(w:World)(hs:s.size<=16)(hW:WS w P B v full):
 Calls Tryz.prog 92 #[.pointer (some ⟨P,0,none⟩),.string s] w λe w'=>WRes P B w v (full++nb s) e w':=by
 have HW:=hid (λw hW=>count_any s.size P B v full w (by omega) hW);have HNZ:Hid (full++vb s.size≠[]):=by
  intro h;have h1:=vb_pos s.size;have h2:=congrArg List.length h;rw[List.length_append,List.length_nil]at h2;omega
 have HS:=hid hW;clear hW;go_enter Tryz.func92,Tryz.ntmps92;go_wp2_with (first
  |(go_at_call 93;refine(HW.out _ HS.out).mono ?_;rintro e w1 ⟨v1,rfl,hS1,hE1⟩;have HS1:=hid hS1;have HE1:=hid hE1;clear hS1 hE1)
  |(go_at_call 91;refine(text_any s P B v1 (full++vb s.size) w1 hs HNZ.out HS1.out).mono ?_;rintro e w2 ⟨v2,rfl,hS2,hE2⟩;have HS2:=hid hS2;have HE2:=hid hE2;clear hS2 hE2))
 refine bE ?_;refine⟨_,rfl,?_,HE1.out.trans HE2.out⟩;rw[nb,<-List.append_assoc];exact HS2.out
theorem fold_any(a:Int)(w:World)(h1:-9223372036854775808<=a)(h2:a<=9223372036854775807):
 Calls Tryz.prog 216 #[.int .i64 a] w λe w'=>e=.returned (.int .u64 (fA a:Nat))∧w'=w:=by
 by_cases hp:0<=a
 ·have HF:Hid (((fA a:Nat):Int)=2*a):=by show _=_;unfold fA;rw[if_pos hp];omega
  go_enter Tryz.func216,Tryz.ntmps216;go_wp2;go_ret;exact⟨by rw[HF.out];rfl,rfl⟩
 ·have HF:Hid (((fA a:Nat):Int)=2*(-(a+1))+1):=by show _=_;unfold fA;rw[if_neg hp];omega
  go_enter Tryz.func216,Tryz.ntmps216;go_wp2;go_ret;exact⟨by rw[HF.out];rfl,rfl⟩
theorem WS.low{w:World}{P B:Nat}{v:Value}{full:List Nat}(h:WS w P B v full):∀k,v.ownBlock=some k->B<=k∧k<w.heap.size:=by
 obtain⟨bs,hB,-⟩:=h.bs;exact hB.base
theorem WS.keep{w w':World}{P B:Nat}{v:Value}{full:List Nat}(h:WS w P B v full)(hb:Below w.heap.size w w'):WS w' P B v full:=by
 obtain⟨bs,q5,q6⟩:=h.bs;exact⟨cell_keep hb h.c,by rw[hb.frozen (block_lt_of_cell h.c)];exact h.f,h.lt,Nat.le_trans h.le hb.size,bs,q5.keep hb,q6⟩
theorem wins_int(k:Nat)(hk:k<21)(a:Int)(alts:List LAlt)(av:Value)(P B:Nat)(v:Value)(full:List Nat)(w0 w:World)(hA:AltsAt w0 av alts)(hT:TabAt w0)(hb0:Below w0.heap.size w0 w)(hP0:w0.heap.size<=P)(hW:WS w P B v full)(h0:k=0)(ha1:-9223372036854775808<=a)(ha2:a<=9223372036854775807):
 Calls Tryz.prog 144 #[.pointer (some ⟨P,0,none⟩),.agg #[.int .i64 (k:Int),.int .i64 a,av]] w λe w'=>WRes P B w v (full++(k::vb (fA a))) e w':=by
 obtain⟨p,cap,rfl,hs1,hcell⟩:=hA.open;have HC:Hid (∀w',Below w0.heap.size w0 w'->AltsIn w' p alts):=hcell;have HT:=hid (λw' (hb:Below w0.heap.size w0 w')=>cell_keep hb (hT.row k 0 hk (by omega)));have HCT:=hid (λw hW=>count_any k P B v full w (by omega) hW);have HBX:Hid (Below w.heap.size w (w.alloc (.cells #[.int .i64 (k:Int),.int .i64 a,.slice p alts.length cap] 143))):=(Below.refl _ _).alloc (Nat.le_refl _) _;have HS0:=hid (hW.keep HBX.out);have hPw:P<w.heap.size:=block_lt_of_cell hW.c;have HLW:=hid hW.low;have HIB:=hid (IB.first w (.int .i64 (k:Int)) (.int .i64 a) (.slice p alts.length cap) 143);have HNB:Hid (v.ownBlock≠some w.heap.size):=λe=>by have:=HLW.out _ e;omega
 have hszX:w.heap.size<((w.alloc (.cells #[.int .i64 (k:Int),.int .i64 a,.slice p alts.length cap] 143))).heap.size:=by simp
 have HB1:Hid (Below w0.heap.size w0 (w.alloc (.cells #[.int .i64 (k:Int),.int .i64 a,.slice p alts.length cap] 143))):=hb0.trans (HBX.out.mono hb0.size);have hPB:=hW.lt;clear hA hcell hT hW;have hkd:rowN k 0=1:=by subst h0;rfl
 have hfa:fA a<18446744073709551616:=by unfold fA;split<;>omega
 have HNM:=hid (λv full w hW=>number_any (fA a) P B v full w hfa hW);have HFD:=hid (λw=>fold_any a w ha1 ha2);have HVK:Hid (vb k=[k]):=vb_small (by omega);rw[hkd]at HT;clear h0 hkd;go_enter Tryz.func144,Tryz.ntmps144;go_upto_region 1 with fail
 generalize hgr:(w.alloc (.cells #[.int .i64 (k:Int),.int .i64 a,.slice p alts.length cap] 143))=W1 at*;obtain⟨-,b0,b1,b2,-,-⟩:=id HIB.out;clear hgr;go_wp2_with (first
  |(go_at_call 93;refine(HCT.out W1 HS0.out).mono ?_;rintro e w2 ⟨v2,rfl,hS2,hE2⟩;have HS2:=hid hS2;have HE2:=hid hE2;have b0':=hE2.cell b0 (by omega) HNB.out;have b1':=hE2.cell b1 (by omega) HNB.out;have b2':=hE2.cell b2 (by omega) HNB.out;have HN2:=hid (hE2.ne hszX HNB.out);have hsz2:=hE2.size;have hbl2:Below w0.heap.size w0 w2:=HB1.out.trans (hE2.below (by have:=HB1.out.size;omega) hP0 (λk hk=>by have:=HLW.out k hk;omega));have HBL2:=hid hbl2;have t2:=HT.out _ hbl2;clear hS2 hE2 hbl2)
  |(go_at_call 215;refine(kindOf_any k _ _ hk t2).mono ?_;rintro e w3 ⟨rfl,rfl⟩)
  |(go_at_call 216;refine(HFD.out _).mono ?_;rintro e w4 ⟨rfl,rfl⟩)
  |(go_at_call 143;refine(HNM.out _ _ _ HS2.out).mono ?_;rintro e w5 ⟨v5,rfl,hS5,hE5⟩;have HS5:=hid hS5;have HE5:=hid hE5;clear hS5 hE5))
 refine bE ?_;refine⟨_,rfl,?_,((WExt.of_below HBX.out v).trans HE2.out).trans HE5.out⟩;have h:=HS5.out;rw[HVK.out,List.append_assoc]at h;exact h
theorem wins_bound(k:Nat)(hk:k<21)(a:Int)(alts:List LAlt)(av:Value)(P B:Nat)(v:Value)(full:List Nat)(w0 w:World)(hA:AltsAt w0 av alts)(hT:TabAt w0)(hb0:Below w0.heap.size w0 w)(hP0:w0.heap.size<=P)(hW:WS w P B v full)(hkd:rowN k 0=2)(n:Nat)(han:a=n)(hn:n<65536):
 Calls Tryz.prog 144 #[.pointer (some ⟨P,0,none⟩),.agg #[.int .i64 (k:Int),.int .i64 a,av]] w λe w'=>WRes P B w v (full++(k::vb n)) e w':=by
 subst han;obtain⟨p,cap,rfl,hs1,hcell⟩:=hA.open;have HC:Hid (∀w',Below w0.heap.size w0 w'->AltsIn w' p alts):=hcell;have HT:=hid (λw' (hb:Below w0.heap.size w0 w')=>cell_keep hb (hT.row k 0 hk (by omega)));have HCT:=hid (λw hW=>count_any k P B v full w (by omega) hW);have HBX:Hid (Below w.heap.size w (w.alloc (.cells #[.int .i64 (k:Int),.int .i64 (n:Int),.slice p alts.length cap] 143))):=(Below.refl _ _).alloc (Nat.le_refl _) _;have HS0:=hid (hW.keep HBX.out);have hPw:P<w.heap.size:=block_lt_of_cell hW.c;have HLW:=hid hW.low;have HIB:=hid (IB.first w (.int .i64 (k:Int)) (.int .i64 (n:Int)) (.slice p alts.length cap) 143);have HNB:Hid (v.ownBlock≠some w.heap.size):=λe=>by have:=HLW.out _ e;omega
 have hszX:w.heap.size<((w.alloc (.cells #[.int .i64 (k:Int),.int .i64 (n:Int),.slice p alts.length cap] 143))).heap.size:=by simp
 have HB1:Hid (Below w0.heap.size w0 (w.alloc (.cells #[.int .i64 (k:Int),.int .i64 (n:Int),.slice p alts.length cap] 143))):=hb0.trans (HBX.out.mono hb0.size);have hPB:=hW.lt;clear hA hcell hT hW;have HNM:=hid (λv full w hW=>count_any n P B v full w (by omega) hW);have HVK:Hid (vb k=[k]):=vb_small (by omega);rw[hkd]at HT;clear hkd;go_enter Tryz.func144,Tryz.ntmps144;go_upto_region 1 with fail
 generalize hgr:(w.alloc (.cells #[.int .i64 (k:Int),.int .i64 (n:Int),.slice p alts.length cap] 143))=W1 at*;obtain⟨-,b0,b1,b2,-,-⟩:=id HIB.out;clear hgr;go_wp2_with (first
  |(go_at_call 93;refine(HCT.out W1 HS0.out).mono ?_;rintro e w2 ⟨v2,rfl,hS2,hE2⟩;have HS2:=hid hS2;have HE2:=hid hE2;have b0':=hE2.cell b0 (by omega) HNB.out;have b1':=hE2.cell b1 (by omega) HNB.out;have b2':=hE2.cell b2 (by omega) HNB.out;have HN2:=hid (hE2.ne hszX HNB.out);have hsz2:=hE2.size;have hbl2:Below w0.heap.size w0 w2:=HB1.out.trans (hE2.below (by have:=HB1.out.size;omega) hP0 (λk hk=>by have:=HLW.out k hk;omega));have HBL2:=hid hbl2;have t2:=HT.out _ hbl2;clear hS2 hE2 hbl2)
  |(go_at_call 215;refine(kindOf_any k _ _ hk t2).mono ?_;rintro e w3 ⟨rfl,rfl⟩)
  |(go_at_call 93;refine(HNM.out _ _ _ HS2.out).mono ?_;rintro e w5 ⟨v5,rfl,hS5,hE5⟩;have HS5:=hid hS5;have HE5:=hid hE5;clear hS5 hE5))
 refine bE ?_;refine⟨_,rfl,?_,((WExt.of_below HBX.out v).trans HE2.out).trans HE5.out⟩;have h:=HS5.out;rw[HVK.out,List.append_assoc]at h;exact h
theorem wins_plain(k:Nat)(hk:k<21)(a:Int)(alts:List LAlt)(av:Value)(P B:Nat)(v:Value)(full:List Nat)(w0 w:World)(hA:AltsAt w0 av alts)(hT:TabAt w0)(hb0:Below w0.heap.size w0 w)(hP0:w0.heap.size<=P)(hW:WS w P B v full)(hkd:rowN k 0=0):
 Calls Tryz.prog 144 #[.pointer (some ⟨P,0,none⟩),.agg #[.int .i64 (k:Int),.int .i64 a,av]] w λe w'=>WRes P B w v (full++[k]) e w':=by
 obtain⟨p,cap,rfl,hs1,hcell⟩:=hA.open;have HC:Hid (∀w',Below w0.heap.size w0 w'->AltsIn w' p alts):=hcell;have HT:=hid (λw' (hb:Below w0.heap.size w0 w')=>cell_keep hb (hT.row k 0 hk (by omega)));have HCT:=hid (λw hW=>count_any k P B v full w (by omega) hW);have HBX:Hid (Below w.heap.size w (w.alloc (.cells #[.int .i64 (k:Int),.int .i64 a,.slice p alts.length cap] 143))):=(Below.refl _ _).alloc (Nat.le_refl _) _;have HS0:=hid (hW.keep HBX.out);have hPw:P<w.heap.size:=block_lt_of_cell hW.c;have HLW:=hid hW.low;have HIB:=hid (IB.first w (.int .i64 (k:Int)) (.int .i64 a) (.slice p alts.length cap) 143);have HNB:Hid (v.ownBlock≠some w.heap.size):=λe=>by have:=HLW.out _ e;omega
 have hszX:w.heap.size<((w.alloc (.cells #[.int .i64 (k:Int),.int .i64 a,.slice p alts.length cap] 143))).heap.size:=by simp
 have HB1:Hid (Below w0.heap.size w0 (w.alloc (.cells #[.int .i64 (k:Int),.int .i64 a,.slice p alts.length cap] 143))):=hb0.trans (HBX.out.mono hb0.size);have hPB:=hW.lt;clear hA hcell hT hW;have HVK:Hid (vb k=[k]):=vb_small (by omega);rw[hkd]at HT;clear hkd;go_enter Tryz.func144,Tryz.ntmps144;go_upto_region 1 with fail
 generalize hgr:(w.alloc (.cells #[.int .i64 (k:Int),.int .i64 a,.slice p alts.length cap] 143))=W1 at*;obtain⟨-,b0,b1,b2,-,-⟩:=id HIB.out;clear hgr;go_wp2_with (first
  |(go_at_call 93;refine(HCT.out W1 HS0.out).mono ?_;rintro e w2 ⟨v2,rfl,hS2,hE2⟩;have HS2:=hid hS2;have HE2:=hid hE2;have b0':=hE2.cell b0 (by omega) HNB.out;have b1':=hE2.cell b1 (by omega) HNB.out;have b2':=hE2.cell b2 (by omega) HNB.out;have HN2:=hid (hE2.ne hszX HNB.out);have hsz2:=hE2.size;have hbl2:Below w0.heap.size w0 w2:=HB1.out.trans (hE2.below (by have:=HB1.out.size;omega) hP0 (λk hk=>by have:=HLW.out k hk;omega));have HBL2:=hid hbl2;have t2:=HT.out _ hbl2;clear hS2 hE2 hbl2)
  |(go_at_call 215;refine(kindOf_any k _ _ hk t2).mono ?_;rintro e w3 ⟨rfl,rfl⟩))
 refine bE ?_;refine⟨_,rfl,?_,(WExt.of_below HBX.out v).trans HE2.out⟩;have h:=HS2.out;rw[HVK.out]at h;exact h
theorem wins_case(alts:List LAlt)(av:Value)(P B:Nat)(v:Value)(full:List Nat)(w0 w:World)(hA:AltsAt w0 av alts)(hT:TabAt w0)(hb0:Below w0.heap.size w0 w)(hP0:w0.heap.size<=P)(hW:WS w P B v full)(hr:∀x∈alts,(0<=x.tag∧x.tag<=255)∧0<=x.to∧x.to<=65535)(hl:alts.length<=256):
 Calls Tryz.prog 144 #[.pointer (some ⟨P,0,none⟩),.agg #[.int .i64 17,.int .i64 0,av]] w λe w'=>WRes P B w v (full++(17::(vb alts.length++altBytes alts))) e w':=by
 obtain⟨p,cap,rfl,hs1,hcell⟩:=hA.open;have HC:Hid (∀w',Below w0.heap.size w0 w'->AltsIn w' p alts):=hcell;have HT:=hid (λw' (hb:Below w0.heap.size w0 w')=>cell_keep hb (hT.row 17 0 (by omega) (by omega)));have HCT:=hid (λw hW=>count_any 17 P B v full w (by omega) hW);have HCN:=hid (λv full w hW=>count_any alts.length P B v full w (by omega) hW);have HBX:Hid (Below w.heap.size w (w.alloc (.cells #[.int .i64 (17:Int),.int .i64 (0:Int),.slice p alts.length cap] 143))):=(Below.refl _ _).alloc (Nat.le_refl _) _;have HS0:=hid (hW.keep HBX.out);have hPw:P<w.heap.size:=block_lt_of_cell hW.c;have HLW:=hid hW.low;have HIB:=hid (IB.first w (.int .i64 (17:Int)) (.int .i64 (0:Int)) (.slice p alts.length cap) 143);have HNB:Hid (v.ownBlock≠some w.heap.size):=λe=>by have:=HLW.out _ e;omega
 have hszX:w.heap.size<((w.alloc (.cells #[.int .i64 (17:Int),.int .i64 (0:Int),.slice p alts.length cap] 143))).heap.size:=by simp
 have HB1:Hid (Below w0.heap.size w0 (w.alloc (.cells #[.int .i64 (17:Int),.int .i64 (0:Int),.slice p alts.length cap] 143))):=hb0.trans (HBX.out.mono hb0.size);have hPB:=hW.lt;have HR:=hid hr;have HVK:Hid (vb 17=[17]):=vb_small (by omega);rw[show rowN 17 0=3 from rfl]at HT;clear hA hcell hT hW hr;go_enter Tryz.func144,Tryz.ntmps144;go_upto_region 1 with fail
 generalize hgr:(w.alloc (.cells #[.int .i64 (17:Int),.int .i64 (0:Int),.slice p alts.length cap] 143))=W1 at*;obtain⟨-,b0,b1,b2,-,-⟩:=id HIB.out;clear hgr;have ho0:=HB1.out.size;go_wp2_with (first
  |(go_at_call 93;refine(HCT.out W1 HS0.out).mono ?_;rintro e w2 ⟨v2,rfl,hS2,hE2⟩;have HS2:=hid hS2;have HE2:=hid hE2;have b0':=hE2.cell b0 (by omega) HNB.out;have b2':=hE2.cell b2 (by omega) HNB.out;have HN2:=hid (hE2.ne hszX HNB.out);have hsz2:=hE2.size;have hbl2:Below w0.heap.size w0 w2:=HB1.out.trans (hE2.below ho0 hP0 (λk hk=>by have:=HLW.out k hk;omega));have HBL2:=hid hbl2;have t2:=HT.out _ hbl2;clear hS2 hE2 hbl2)
  |(go_at_call 215;refine(kindOf_any 17 _ _ (by omega) t2).mono ?_;rintro e w3 ⟨rfl,rfl⟩)
  |(go_at_call 93;refine(HCN.out _ _ _ HS2.out).mono ?_;rintro e w5 ⟨v5,rfl,hS5,hE5⟩;have HS5:=hid hS5;have HE5:=hid (HE2.out.trans hE5);have b2'':=hE5.cell b2' (by omega) HN2.out;clear hS5 hE5))
 go_loopw [36] (λk wr=>∃(j:Nat) (vj:Value),j<=alts.length∧k=.int .i64 j∧Hid (WS wr P B vj (full++vb 17++vb alts.length++altBytes (alts.take j))∧WExt P W1 wr v vj)) (λk _=>alts.length-(intOf k).toNat)
 case atStart=>exact⟨0,v5,Nat.zero_le _,rfl,by simpa[altBytes]using HS5.out,HE5.out⟩
 case round=>
  obtain⟨j,vj,hj,rfl,HK⟩:=hrel;rename World=>wB
  have hbj:Below w0.heap.size w0 wB:=HB1.out.trans (HK.out.2.below ho0 hP0 (λk hk=>by have:=HLW.out k hk;omega));have hPB2:=block_lt_of_cell HK.out.1.c;by_cases hjt:j<alts.length
  ·obtain⟨ab,ao,rfl,t0,t1⟩:=HC.out _ hbj j hjt;have hj1:(0:Int)<=(j:Int):=by omega
   have hj2:(j:Int)<(alts.length:Int):=by omega
   obtain⟨⟨r1,r2⟩,r3,r4⟩:=HR.out _ (List.getElem_mem hjt);have HSN:=hid (altBytes_snoc alts j hjt);obtain⟨tg,htg⟩:=Int.eq_ofNat_of_zero_le r1;obtain⟨tt,hto⟩:=Int.eq_ofNat_of_zero_le r3;rw[htg]at t0 HSN r2;rw[hto]at t1 HSN r4;simp only[Int.toNat_natCast]at HSN t0 t1 r2 r4;have HKL:=hid HK.out.1.low;have HBB:Hid (Below wB.heap.size wB (wB.alloc (.cells #[.int .i64 (tg:Int),.int .i64 (tt:Int)] 145))):=(Below.refl _ _).alloc (Nat.le_refl _) _;have HSB:=hid (HK.out.1.keep HBB.out);have HNA:Hid (vj.ownBlock≠some wB.heap.size):=λe=>by have:=HKL.out _ e;omega
   have a1:(wB.alloc (.cells #[.int .i64 (tg:Int),.int .i64 (tt:Int)] 145)).cell? ⟨wB.heap.size,1,none⟩=some (.int .i64 (tt:Int)):=alloc_cell wB #[.int .i64 (tg:Int),.int .i64 (tt:Int)] 145 1 _ rfl;have HA1:=hid a1;clear hbj htg hto r1 r3 hj a1;go_wp2_with (first
    |(go_at_call 93;refine(count_any tg P B vj _ _ (by omega) HSB.out).mono ?_;rintro e w6 ⟨v6,rfl,hS6,hE6⟩;have HS6:=hid hS6;have HE6:=hid hE6;have a1':=hE6.cell HA1.out (by omega) HNA.out;clear hS6 hE6)
    |(go_at_call 93;refine(count_any tt P B v6 _ _ (by omega) HS6.out).mono ?_;rintro e w7 ⟨v7,rfl,hS7,hE7⟩;have HS7:=hid hS7;have HE7:=hid hE7;clear hS7 hE7))
   go_roundw
   case rel=>
    have hfin:WS w7 P B v7 (full++vb 17++vb alts.length++altBytes (alts.take (j+1))):=by
     rw[HSN.out];simpa[List.append_assoc]using HS7.out
    first
    |exact⟨j+1,v7,by omega,by go_num,hfin,((HK.out.2.trans (WExt.of_below HBB.out vj)).trans HE6.out).trans HE7.out⟩
    |((repeat apply Exists.intro);exact⟨⟨j+1,v7,by omega,by go_num,hfin,((HK.out.2.trans (WExt.of_below HBB.out vj)).trans HE6.out).trans HE7.out⟩,rfl⟩)
   case measure=>simp[intOf];omega
  ·have e:j=alts.length:=by omega
   subst e;go_wp2;refine bE ?_;refine⟨_,rfl,?_,(WExt.of_below HBX.out v).trans HK.out.2⟩;have h:=HK.out.1;rw[List.take_length,HVK.out]at h;simpa[List.append_assoc]using h
theorem wins_any(x:LIns)(av:Value)(P B:Nat)(v:Value)(full:List Nat)(w0 w:World)(hA:AltsAt w0 av x.alts)(hT:TabAt w0)(hb0:Below w0.heap.size w0 w)(hP0:w0.heap.size<=P)(hG:insG x.op x.a x.alts=true)(ha1:-9223372036854775808<=x.a)(ha2:x.a<=9223372036854775807)(hW:WS w P B v full):
 Calls Tryz.prog 144 #[.pointer (some ⟨P,0,none⟩),.agg #[.int .i64 x.op,.int .i64 x.a,av]] w λe w'=>WRes P B w v (full++wb x) e w':=by
 obtain⟨op,a,alts⟩:=x;simp only at hA hG ha1 ha2 ⊢;have ho:0<=op∧op<21:=by
  unfold insG at hG;split at hG
  ·assumption
  ·cases hG
 obtain⟨k,rfl⟩:=Int.eq_ofNat_of_zero_le ho.1;have hk:k<21:=by omega
 have hR:=insG_row k hk a alts;rw[hG]at hR;unfold wb;simp only[Int.toNat_natCast];by_cases h0:k=0
 ·rw[if_pos (by omega)];exact wins_int k hk a alts av P B v full w0 w hA hT hb0 hP0 hW h0 ha1 ha2
 ·rw[if_neg (by omega)];by_cases h17:k=17
  ·subst h17;rw[show rowN 17 0=3 from rfl]at hR;simp only[show ¬((3:Int)=1) by omega,show ¬((3:Int)=2) by omega,if_false,if_true]at hR;have h1:=hR.symm;simp only[Bool.and_eq_true,beq_iff_eq]at h1;obtain⟨rfl,h2⟩:=h1;rw[altsGood_eq]at h2;simp only[Bool.and_eq_true,decide_eq_true_eq]at h2;have h3:=(altsB_iff alts).1 h2.1;rw[if_pos (show((17:Nat):Int)=17 from rfl)];refine wins_case alts av P B v full w0 w hA hT hb0 hP0 hW (λx hx=>?_) (altsB_len alts h2.1);obtain⟨i,hi,rfl⟩:=List.mem_iff_getElem.1 hx;have:=h3.1 i hi hi;simp only[altOk,Bool.and_eq_true,decide_eq_true_eq]at this;omega
  ·rw[if_neg (by omega)];rcases bd_facts k hk h17 with⟨f0,f1,f2,f3,-⟩|h|⟨f0,f1,f2,-⟩
   ·rw[f0]at hR;simp only[show ¬((2:Int)=1) by omega,if_false,if_true]at hR;have ha:rowN k 1<=a∧a<=rowN k 2:=by
     have:=hR.symm;simp only[Bool.and_eq_true,decide_eq_true_eq]at this;exact⟨this.1.2,this.2⟩
    have hb:0<=rowN k 1∧rowN k 2<=65535:=by
     clear hR hG ha f0 f1 f2 f3 hW;rcases all21 k hk with rfl|rfl|rfl|rfl|rfl|rfl|rfl|rfl|rfl|rfl|rfl|rfl|rfl|rfl|rfl|rfl|rfl|rfl|rfl|rfl|rfl;all_goals decide
    obtain⟨n,rfl⟩:=Int.eq_ofNat_of_zero_le (show 0<=a by omega);rw[if_pos f0,Int.toNat_natCast];exact wins_bound k hk _ alts av P B v full w0 w hA hT hb0 hP0 hW f0 n rfl (by omega)
   ·exact absurd h h0
   ·rw[if_neg (by omega)];exact wins_plain k hk a alts av P B v full w0 w hA hT hb0 hP0 hW f0
end Go.Proofs.YtblobglfjhilmaaGreatDoor
