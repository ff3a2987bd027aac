import Derived.Test.YtahmgjjgikgpoaaGreatDoorStJ
import Derived.Test.YtahmgjjgikgpoaaGreatDoorSvJ
import Derived.Test.YtahmgjjgikgpoaaGreatDoorToJ
set_option maxRecDepth 100000
set_option maxHeartbeats 8000000
namespace Go.Proofs.YtahmgjjgikgpoaaGreatDoor
open Go.RowKit Go.Sort
theorem btC_app'(t s:List UInt8):btC (t++s)=btC t++Lib.strCells ⟨s.toArray⟩:=by
 rw[btC_app];rfl
theorem cat40w(l:List UInt8):(⟨#[40]⟩:ByteArray)++⟨l.toArray⟩=⟨(40::l).toArray⟩:=by
 apply ByteArray.ext;rw[ByteArray.data_append];simp
theorem Tryz.todoK:(Tryz.prog.info? 125).map (λi=>(i.zero,i.size,i.bytes))=some (some (.agg #[.string ⟨#[]⟩,.int .i64 0]),2,24):=by kernel_rfl
def TlJ(lo M Ib:Nat)(gs:List LGlob)(B:List Nat)(w:World)(R:TRes)(v5 v6:Value)(wr:World):Prop:=
 ∃a t L op oc tp tc,v5=.slice op t.length oc∧v6=.slice tp L.length tc∧Hid (TlI lo M Ib B w [] a t L v5 v6 wr)∧Hid (WfB gs a∧TdOk L a)∧Hid (R=tEnd gs L a t)∧t.length<=2000∧Hid (L.length+512*mu a<=1100000000∧∀p∈L,p.1.length<=1)
theorem rTell_any{lo:Nat}{w:World}{M Ib:Nat}{st:ASt}{B:List Nat}{gs:List LGlob}{D:Nat->Nat->Int}{v1:Value}(hG:ImgOk gs D)(hW:WfB gs st)(h:RM lo w M Ib st B)(hI:ImR lo w Ib gs v1)(htab:Lib.TabBelow Tryz.prog lo w "internal/strconv.uint64pow10" .u64 Lib.pow10Tab)(c:Int)(hc:0<=c∧c<(st.cells.length:Int)):
 Calls Tryz.prog 22 #[.pointer (some ⟨M,0,none⟩),.int .i64 c] w λe w'=>RRes lo M Ib B w (tEnd gs [([],c)] st []).1 (.string ⟨((tEnd gs [([],c)] st []).2.getD []).toArray⟩) e w':=by
 obtain⟨ii,hii,hij⟩:=Option.map_eq_some_iff.1 Tryz.byteJ;simp only[Prod.mk.injEq]at hij;obtain⟨hi0,hi1,hi2⟩:=hij;obtain⟨ti,hti,htj⟩:=Option.map_eq_some_iff.1 Tryz.todoK;simp only[Prod.mk.injEq]at htj;obtain⟨ht0,ht1,ht2⟩:=htj;obtain⟨R,hR⟩:∃R,tEnd gs [([],c)] st []=R:=⟨_,rfl⟩;rw[hR];have HG:=hid hG;have HIM:Hid (∀X,AG B w X->ImR lo X Ib gs v1):=λX hX=>hI.low (hX.low h.lows.2 h.lows.1);have HTB:Hid (∀X,AG B w X->Lib.TabIs Tryz.prog X "internal/strconv.uint64pow10" .u64 Lib.pow10Tab):=λX hX=>htab X (hX.low h.lows.2 h.lows.1);have HJ0:Hid (TlJ lo M Ib gs B w R (.slice none 0 0) (.slice (some ⟨w.heap.size,0,none⟩) 1 1) (w.alloc (.cells #[.string ⟨#[]⟩,.int .i64 c] 125))):=⟨st,[],[([],c)],_,_,_,_,rfl,rfl,TlI.start h c,⟨hW,λp hp=>by rw[List.mem_singleton.1 hp];exact hc.2⟩,hR.symm,by simp,by
  have h1:=hW.steps;have h2:=hW.fuel;show 1+512*mu st<=_;unfold mu;omega,λp hp=>by rw[List.mem_singleton.1 hp];exact Nat.zero_le _⟩
 clear h hW hG hI htab hR hc;go_enter Tryz.func22,Tryz.ntmps22;go_upto_region 3 with fail
 go_loopw [5,6] (λv5 v6 wr=>TlJ lo M Ib gs B w R v5 v6 wr) (λ_ v6 wr=>1000*rmu M wr+slN v6)
 case atStart=>exact HJ0.out
 case round=>
  rename World=>wr
  clear HJ0;obtain⟨a,t,L,op,oc,tp,tc,rfl,rfl,HT,HWF,HR,htl,HLB⟩:=hrel;cases L with
  |nil=>
   have hcv:=conv_row HT.out.o;have HX:=hid (HR.out.trans (tEnd_nil a t));have HRR:=hid (HT.out.res (.string ⟨t.toArray⟩));clear HR HWF HLB;go_wp2;go_ret;rw[HX.out];exact HRR.out
  |cons p L=>
   obtain⟨s,c⟩:=p;obtain⟨g,cap,e,hcap,hs0,hs1,hT2⟩:=HT.out.top;cases e;have hLl:L.length<=1100000000:=by have:=HLB.out.1;rw[List.length_cons]at this;omega
   have hsl:s.length<=1:=HLB.out.2 _ (List.mem_cons_self ..);have HPS:Hid (∀p∈L,p.1.length<=1):=λp hp=>HLB.out.2 p (List.mem_cons_of_mem _ hp);have HL':Hid (L.length+1+512*mu a<=1100000000):=HLB.out.1;obtain⟨N,hN⟩:∃N,L.length=N:=⟨_,rfl⟩;have HN:=hid hN;rw[hN]at hcap hs0 hs1 hT2 hLl;rw[show((s,c)::L).length=N+1 by rw[<-hN];rfl]at HT ⊢;have hmu:=HT.out.r;have HMU:Hid (rmu M wr=mu a):=by
    obtain⟨B',h1,-⟩:=hmu;exact h1.mu
   have HTM:=hid (hT2.more (C:=#[.string ⟨s.toArray⟩,.int .i64 c]) (e:=125) (by decide));obtain⟨W0,hW0⟩:∃W0,wr.alloc (.cells #[.string ⟨s.toArray⟩,.int .i64 c] 125)=W0:=⟨_,rfl⟩;have hC2:W0.cell? ⟨wr.heap.size,0,none⟩=some (.string ⟨s.toArray⟩)∧W0.cell? ⟨wr.heap.size,1,none⟩=some (.int .i64 c):=by
    rw[<-hW0];exact⟨alloc_cell wr #[.string ⟨s.toArray⟩,.int .i64 c] _ 0 _ rfl,alloc_cell wr #[.string ⟨s.toArray⟩,.int .i64 c] _ 1 _ rfl⟩
   obtain⟨q0,q1⟩:=hC2;have HQB:Hid (∀X:World,X.heap[wr.heap.size]?=W0.heap[wr.heap.size]?->X.cell? ⟨wr.heap.size,0,none⟩=some (.string ⟨s.toArray⟩)∧X.frozen? ⟨wr.heap.size,0,none⟩=false):=λX hX=>⟨cell_same hX q0,frozen_of_row X wr.heap.size 0 #[.string ⟨s.toArray⟩,.int .i64 c] 125 (by rw[hX,<-hW0];exact heap_alloc_new wr _)⟩;rw[hW0]at HTM;clear hN hmu hT2 HT HLB;go_upto_if 31 with fail
   go_cut [6] (λv6 wx=>∃a1 s1 L1 tp1 tc1,v6=.slice tp1 L1.length tc1∧Hid (TlI lo M Ib B w [wr.heap.size] a1 t L1 (.slice op t.length oc) v6 wx)∧wx.cell? ⟨wr.heap.size,0,none⟩=some (.string ⟨s1.toArray⟩)∧Hid (WfB gs a1∧TdOk L1 a1)∧Hid (R=tSay s1 a1 t λt'=>tEnd gs L1 a1 t')∧s1.length<=100∧Hid (L1.length+512*mu a1<=1100000000∧∀p∈L1,p.1.length<=1)∧Hid (1000*mu a1+L1.length<1000*mu a+(N+1)))
   case first=>
    by_cases h0:0<=c
    ·have hclt:=HWF.out.2 _ (List.mem_cons_self ..);have hLE:=aWork_le (gs:=gs) c (show LeF a from HWF.out.1.steps.2);obtain⟨-,hRO,-⟩:=aWork_end HG.out HWF.out.1 ⟨h0,hclt⟩;have HCE:=hid (HR.out.trans (tEnd_cell HG.out HWF.out.1 HWF.out.2 h0));have HWK:Hid (Calls Tryz.prog 36 #[.pointer (some ⟨M,0,none⟩),.int .i64 c] W0 λe w1=>e=.returned (.int .i64 (vZ (aWork gs c a).2))∧Hid (TlI lo M Ib B w [wr.heap.size] (aWork gs c a).1 t L (.slice op t.length oc) (.slice (some ⟨g,0,none⟩) N tc) w1)∧Hid (w1.heap[wr.heap.size]?=W0.heap[wr.heap.size]?)):=by
      obtain⟨B0,hM0,hcall⟩:=HTM.out.call;refine(rWork_any HG.out HWF.out.1 hM0 (HIM.out _ HTM.out.ag) c ⟨h0,hclt⟩).mono λe w1 hr=>?_;have he:=hr.1;exact⟨he,(hcall _ _ _ _ hr).1,(hcall _ _ _ _ hr).2 _ (List.mem_singleton.2 rfl)⟩
     have hsp:-1000000000000<=(aWork gs c a).1.steps∧(aWork gs c a).1.steps<=1000000000000:=by
      have h1:=HWF.out.1.steps;have h2:=HWF.out.1.fuel;have h3:=hRO.1;unfold LeF at hLE;omega
     have HST:Hid (∀X,TlI lo M Ib B w [wr.heap.size] (aWork gs c a).1 t L (.slice op t.length oc) (.slice (some ⟨g,0,none⟩) N tc) X->X.heap[wr.heap.size]?=W0.heap[wr.heap.size]?->Calls Tryz.prog 37 #[.pointer (some ⟨M,0,none⟩)] X λe w1=>e=.returned (.bool (rStepB (aWork gs c a).1))∧Hid (TlI lo M Ib B w [wr.heap.size] (rStepS (aWork gs c a).1) t L (.slice op t.length oc) (.slice (some ⟨g,0,none⟩) N tc) w1)∧Hid (w1.heap[wr.heap.size]?=W0.heap[wr.heap.size]?)):=λX hX hX2=>by
      obtain⟨B0,hM0,hcall⟩:=hX.call;refine(rStep_any hM0 hsp).mono λe w1 hr=>?_;have he:=hr.1;exact⟨he,(hcall _ _ _ _ hr).1,((hcall _ _ _ _ hr).2 _ (List.mem_singleton.2 rfl)).trans hX2⟩
     rcases tVal_ok HG.out HWF.out.1 ⟨h0,hclt⟩ with⟨x,v,ew,hsb,hv0,hv1,hx,etv,hW1,hcl,hmu,hck⟩|⟨etv,hsb,hee⟩
     ·have e2:rStepS (aWork gs c a).1=(tVal gs c a).1:=by
       rw[rStepS_yes hsb];unfold tVal;simp only[hsb,if_true]
      have ec:(tVal gs c a).1.cells=(aWork gs c a).1.cells:=by rw[<-e2,rStepS_cl]
      have ev:(aWork gs c a).2=some v:=by rw[ew]
      rw[hsb,e2]at HST;rw[ev]at HWK;rw[etv]at HCE;simp only[vZ]at HWK HCE;rw[<-ec]at hv1;have hTM:=HWF.out.2.more hck hcl;obtain⟨r,rfl⟩:∃r:Nat,v=(r:Int):=⟨v.toNat,by omega⟩;have hr:r<(tVal gs c a).1.cells.length:=by omega
      have hxr:x=(tVal gs c a).1.cells[r]:=by
       rw[hx];unfold cAt;rw[<-ec,Int.toNat_natCast,List.getElem?_eq_getElem hr];rfl
      have HXR:=hid hxr;clear hxr;generalize (aWork gs c a).1=aw at*;generalize (tVal gs c a).1=a2 at*;clear ew ev etv hLE hRO hsp hx HTM ec e2;go_upto_region 11 with(first
       |(go_at_call 36;refine HWK.out.mono ?_;rintro e w1 ⟨rfl,HT1,HE1⟩;have HS1:=hid (HST.out w1 HT1.out HE1.out);clear HWK HST)
       |(go_at_call 37;refine HS1.out.mono ?_;rintro e w2 ⟨rfl,HT2,HE2⟩;clear HS1 HT1 HE1))
      obtain⟨cg,cc,pp,pn,pc,m1,c0,c1,c2,hpt⟩:∃(cg cc:Nat) (pp:Option Addr) (pn pc:Nat),w2.cell? ⟨M,1,none⟩=some (.slice (some ⟨cg,0,none⟩) a2.cells.length cc)∧w2.cell? ⟨cg,r*3,none⟩=some (.int .u8 (kByte x.kind))∧w2.cell? ⟨cg,r*3+1,none⟩=some (.int .i64 (cN x))∧w2.cell? ⟨cg,r*3+2,none⟩=some (.slice pp pn pc)∧PtX (λ_=>True) w2 (.slice pp pn pc) (cP x):=by
       obtain⟨B2,hM2,-⟩:=HT2.out.r;obtain⟨cg,cc,pp,pn,pc,k1,k2,k3,k4,k5⟩:=hM2.cellR hr;rw[<-HXR.out]at k2 k3 k5;exact⟨cg,cc,pp,pn,pc,k1,k2,k3,k4,k5⟩
      obtain⟨W4,hW4⟩:∃W4,w2.alloc (.cells #[.int .u8 (kByte x.kind),.int .i64 (cN x),.slice pp pn pc] 88)=W4:=⟨_,rfl⟩;have hb4:Below w2.heap.size w2 W4:=by rw[<-hW4];exact(Below.refl _ _).alloc (Nat.le_refl _) _
      have HT4:Hid (TlI lo M Ib B w [w2.heap.size,wr.heap.size] a2 t L (.slice op t.length oc) (.slice (some ⟨g,0,none⟩) N tc) W4):=by show TlI _ _ _ _ _ _ _ _ _ _ _ _;rw[<-hW4];exact HT2.out.more (by decide)
      have HC4:Hid (C3 W4 w2.heap.size (.int .u8 (kByte x.kind)) (.int .i64 (cN x)) (.slice pp pn pc)):=by show C3 _ _ _ _ _;rw[<-hW4];exact C3.new w2 _ _ _ _
      have htb:wr.heap.size<w2.heap.size:=(HT2.out.ex _ (List.mem_singleton.2 rfl)).1.2;have HE4:Hid (W4.heap[wr.heap.size]?=W0.heap[wr.heap.size]?):=(hb4.block _ htb).trans HE2.out;have HP4:Hid (PtX (λ_=>True) W4 (.slice pp pn pc) (cP x)):=hpt.fr λb h1 h2=>⟨h1,hb4.block b h2⟩;have t4:(r:Int)<(a2.cells.length:Int):=by omega
      have kb1:=kB1 x.kind hck.k;have kb3:=kB3 x.kind hck.k;have hxn:=hck.n;have HIT:Hid (∀X,Below W4.heap.size W4 X->Calls Tryz.prog 38 #[.int .i64 x.n] X λe w'=>e=.returned (.string ⟨(Lib.itoa x.n).toArray⟩)∧Hid (Below W4.heap.size W4 w')):=λX hX=>(itoa_any x.n hxn.1 hxn.2 X (HTB.out X (HT4.out.ag.then hX))).mono λe w' ⟨he,k,os,hw⟩=>⟨he,by rw[hw];exact hX.trans (Lib.below_grow _ _ hX.size k os)⟩;have hil:=Lib.itoa_length_le x.n hxn.1 hxn.2;have HSTO:Hid (∀X s1,Below W4.heap.size W4 X->(X.cell? ⟨wr.heap.size,0,none⟩=some (.string ⟨s.toArray⟩)∧X.frozen? ⟨wr.heap.size,0,none⟩=false)∧Hid (TlI lo M Ib B w [w2.heap.size,wr.heap.size] a2 t L (.slice op t.length oc) (.slice (some ⟨g,0,none⟩) N tc) (X.setCell ⟨wr.heap.size,0,none⟩ (.string s1))∧C3 (X.setCell ⟨wr.heap.size,0,none⟩ (.string s1)) w2.heap.size (.int .u8 (kByte x.kind)) (.int .i64 (cN x)) (.slice pp pn pc)∧PtX (λ_=>True) (X.setCell ⟨wr.heap.size,0,none⟩ (.string s1)) (.slice pp pn pc) (cP x))∧(X.setCell ⟨wr.heap.size,0,none⟩ (.string s1)).cell? ⟨wr.heap.size,0,none⟩=some (.string s1)):=λX s1 hX=>by
       have hlt4:wr.heap.size<W4.heap.size:=Nat.lt_of_lt_of_le htb hb4.size;have hq:=HQB.out X ((hX.block _ hlt4).trans HE4.out);have hTX:=HT4.out.keep hX;have hA:AG [wr.heap.size] X (X.setCell ⟨wr.heap.size,0,none⟩ (.string s1)):=(AG.refl _ _).set (Or.inl (List.mem_singleton.2 rfl)) _;refine⟨hq,⟨hTX.setE (by simp) _,(HC4.out.keep hX).ag hA (by simp;omega),(HP4.out.fr λb h1 h2=>⟨h1,hX.block b h2⟩).apart hA λb hb=>?_⟩,World.cell?_setCell_same _ _ _ hq.1⟩;rw[List.mem_singleton.1 hb];exact(hTX.ex _ (by simp)).2.2.not
      clear hpt;go_upto_region 12 with fail
      clear c0 c1 c2 m1 hW4 hb4 t4 HXR hr hv0 hv1;obtain⟨x0,x1,x2,-⟩:=HC4.out;have HBB:Hid (∀n,n<=511->n+N+512*mu a2<=1100000000∧1000*mu a2+(n+N)<1000*mu a+(N+1)):=λn hn=>by
       have h1:=HL'.out;have h2:=HN.out;omega
      have HFI:Hid (WfB gs a2∧TdOk (tMore x++L) a2):=⟨hW1,hTM⟩;have HML:=hid (tMore_len hck);clear hW1 hTM hck hcl hmu HT2 HE2 HT4 HL';by_cases hk1:x.kind=1
      ·have hb:=kb1.2 hk1;have hcn:cN x=x.n:=by simp[cN,hk1]
       have HPI:Hid (tPiece x=Lib.itoa x.n):=by show _=_;unfold tPiece;rw[if_pos hk1]
       have HMO:Hid (tMore x=[]):=by show _=_;unfold tMore;rw[if_neg (by omega)]
       rw[hb]at x0 HSTO;rw[hcn]at x1;have HI4:=hid (HIT.out W4 (Below.refl _ _));clear kb1 kb3 hb hk1 HIT;go_wp2_with (first
        |(go_at_call 38;refine HI4.out.mono ?_;rintro e w5 ⟨rfl,HB5⟩;obtain⟨⟨z0,zf⟩,HTX,z1⟩:=HSTO.out w5 ⟨(Lib.itoa x.n).toArray⟩ HB5.out;clear HI4))
       go_meet
       refine⟨a2,Lib.itoa x.n,L,_,_,by rw[HN.out],HTX.out.1.less (λb hb=>List.mem_cons_of_mem _ hb),z1,⟨HFI.out.1,by have:=HFI.out.2;rw[HMO.out]at this;exact this⟩,by show _=_;rw[HCE.out,HPI.out,HMO.out];rfl,by omega,⟨by have:=(HBB.out 0 (by omega)).1;rw[HN.out];omega,HPS.out⟩,by have:=(HBB.out 0 (by omega)).2;show _<_;rw[HN.out];omega⟩
      ·by_cases hk3:x.kind=3
       ·have hb:=kb3.2 hk3;have hcn:cN x=x.n:=by simp[cN,hk3]
        rw[hb]at x0 HSTO;rw[hcn]at x1 HSTO;have HI4:=hid (HIT.out W4 (Below.refl _ _));clear kb1 kb3 hb HIT;go_upto_region 18 with(first
         |(go_at_call 38;refine HI4.out.mono ?_;rintro e w5 ⟨rfl,HB5⟩;obtain⟨⟨z0,zf⟩,HTX,z1⟩:=HSTO.out w5 ⟨(40::Lib.itoa x.n).toArray⟩ HB5.out;clear HI4))
        rw[cat40w (Lib.itoa x.n)];obtain⟨W6,hW6⟩:∃W6,w5.setCell ⟨wr.heap.size,0,none⟩ (.string ⟨(40::Lib.itoa x.n).toArray⟩)=W6:=⟨_,rfl⟩;rw[hW6]at HTX z1 ⊢;obtain⟨P,hP⟩:∃P,x.fields.reverse=P:=⟨_,rfl⟩;have ecp:cP x=P:=by rw[<-hP];simp[cP,hk3]
        have HPI:Hid (tPiece x=40::Lib.itoa x.n):=by show _=_;unfold tPiece;rw[if_neg hk1,if_pos hk3]
        have HMO:Hid (tMore x=tFl P++[([41],-1)]):=by show _=_;unfold tMore;rw[if_pos hk3,hP]
        rw[ecp]at HTX;have hpn:pn=P.length:=by
         obtain⟨-,-,p,cap,e,-⟩:=HTX.out;cases e;rfl
        subst hpn;have hPl:P.length<=255:=by
         have h1:=HML.out;rw[HMO.out,List.length_append,tFl_len]at h1;simp at h1;omega
        have HD6:Hid (W6.ownsRow w.heap.size 125 2 (.slice (some ⟨g,0,none⟩) N tc) N (tdR L)):=by
         have:=HTX.out.1.d;rw[HN.out]at this;exact this
        have hz6:w.heap.size<=W6.heap.size:=HTX.out.1.ag.size;have HNX:Hid (∀p c7 w7,w7.ownsRow w.heap.size 125 2 (.slice p (N+1) c7) (N+1) (tdR L++[.string ⟨#[41]⟩,.int .i64 (-1)])->(W6.alloc (.cells #[.string ⟨#[41]⟩,.int .i64 (-1)] 125)).grownBy w7 (Value.slice (some ⟨g,0,none⟩) N tc).ownBlock->((Value.slice p (N+1) c7).ownBlock=(Value.slice (some ⟨g,0,none⟩) N tc).ownBlock∨(Value.slice p (N+1) c7).ownBlock=some (W6.alloc (.cells #[.string ⟨#[41]⟩,.int .i64 (-1)] 125)).heap.size)->Hid (TlK lo M Ib B w wr.heap.size w2.heap.size a2 t P L (.slice op t.length oc) (.int .u8 114) (.int .i64 x.n) (.slice pp P.length pc) (40::Lib.itoa x.n) P.length (.slice p (N+1) c7) w7)):=λp c7 w7 hown hg hat=>by
         obtain⟨k1,k2,k3⟩:=HTX.out;show TlK _ _ _ _ _ _ _ _ _ _ _ _ _ _ _ _ _ _ _;unfold TlK;rw[List.drop_length];refine k1.pushK (N:=[([41],-1)]) k2 k3 z1 ?_ hg hat;rw[show([(([41]:List UInt8),(-1:Int))]++L).length=N+1 by rw[<-HN.out];rfl];show World.ownsRow _ _ _ _ _ _ (tdR (_::L));rw[tdR_cons];exact hown
        clear hW6 hk1 HSTO HB5 ecp hP;go_upto_region 20 with(first
         |(at_builtin;refine wpList_app rfl (.tmp 63) (.tmp 65) 126 rfl w.heap.size 125 ti _ 2 24 Tryz.underlying126 hti ht0 ht1 ht2 rfl (by omega) (.slice (some ⟨g,0,none⟩) N tc) N (tdR L) (by simp[Act.eval]) (HD6.out.alloc _) ⟨W6.heap.size,0,none⟩ 1 1 [.string ⟨#[41]⟩,.int .i64 (-1)] (by simp[Act.eval]) rfl (by have h:=World.news_of_block (heap_alloc_new W6 (Obj.cells #[.string ⟨#[41]⟩,.int .i64 (-1)] 125));simpa using h) (by intro u hu;simp at hu;rcases hu with rfl|rfl<;>rfl) (by unfold maxLen;omega) (by omega) (by rw[World.size_alloc];omega) ?_;intro p7 c7 w7 hown hgrow hat;have HK7:=hid ((HNX.out p7 c7 w7 hown hgrow hat).out);obtain⟨y0,y1,y2,-⟩:=HK7.out.2.1;clear hown hgrow hat HNX))
        clear HD6 hz6 HTX z1 z0 zf x0 x1 x2 y0 y1 y2 HC4 HP4;go_loopw [6,11] (λv6 v11 wx=>∃j p6 c6,j<=P.length∧v11=.int .i64 ((j:Int)-1)∧v6=.slice p6 (2*(P.length-j)+1+N) c6∧Hid (TlK lo M Ib B w wr.heap.size w2.heap.size a2 t P L (.slice op t.length oc) (.int .u8 114) (.int .i64 x.n) (.slice pp P.length pc) (40::Lib.itoa x.n) j v6 wx)) (λ_ v11 _=>(intOf v11+1).toNat)
        case atStart=>exact⟨P.length,p7,c7,Nat.le_refl _,rfl,by rw[Nat.sub_self];congr 1;omega,HK7.out⟩
        case round=>
         rename World=>wx
         clear HK7;obtain⟨j,p6,c6,hj,rfl,rfl,HK⟩:=hrel;obtain⟨y0,y1,y2,-⟩:=HK.out.2.1;cases j with
         |zero=>
          have i0:¬(0:Int)<=(((0:Nat):Int)-1):=by omega
          have y4:=HK.out.2.2.2;go_wp2;go_meet
          have hL1:(tMore x++L).length=2*(P.length-0)+1+N:=by
           rw[HMO.out,List.length_append,List.length_append,tFl_len,HN.out];simp
          have hT1:=HK.out.1;rw[List.drop_zero,show tFl P++([41],-1)::L=tMore x++L by rw[HMO.out];simp]at hT1;have hM:=HML.out;refine⟨a2,40::Lib.itoa x.n,tMore x++L,p6,c6,by rw[hL1];rfl,hT1.less (λb hb=>List.mem_cons_of_mem _ hb),y4,HFI.out,by show _=_;rw[HCE.out,HPI.out],by rw[List.length_cons];omega,⟨by have:=(HBB.out _ hM).1;rw[List.length_append,HN.out];omega,λp hp=>?_⟩,by have:=(HBB.out _ hM).2;show _<_;rw[List.length_append,HN.out];omega⟩;rcases List.mem_append.1 hp with hp|hp
          ·rw[HMO.out]at hp;rcases List.mem_append.1 hp with hp|hp
           ·obtain⟨f,-,hp⟩:=List.mem_flatMap.1 hp;simp only[List.mem_cons,List.not_mem_nil,or_false]at hp;rcases hp with rfl|rfl<;>simp
           ·rw[List.mem_singleton.1 hp];simp
          ·exact HPS.out p hp
         |succ j=>
          have hj2:j<P.length:=by omega
          have i0:(((j+1:Nat):Int)-1)=(j:Int):=by omega
          have i1:(0:Int)<=(j:Int):=by omega
          have i2:(j:Int)<(P.length:Int):=by omega
          obtain⟨fj,hfj⟩:∃fj,P[j]=fj:=⟨_,rfl⟩;obtain⟨pb,po,rfl,hpj⟩:∃pb po,pp=some ⟨pb,po,none⟩∧wx.cell? ⟨pb,po+j,none⟩=some (.int .i64 fj):=by
           obtain⟨p,cap,e,hp⟩:=HK.out.2.2.1;cases e;obtain⟨pb,po,-,e,hc⟩:=hp j hj2;exact⟨pb,po,e,by rw[hc,hfj]⟩
          obtain⟨n6,hn6⟩:∃n6,2*(P.length-(j+1))+1+N=n6:=⟨_,rfl⟩;have hn7:n6+2=2*(P.length-j)+1+N:=by omega
          have hn8:n6<=1200000000:=by omega
          rw[hn6]at HK ⊢;obtain⟨xs,hxs⟩:∃xs,tdR (tFl (P.drop (j+1))++([41],-1)::L)=xs:=⟨_,rfl⟩;have HD6:Hid (wx.ownsRow w.heap.size 125 2 (.slice p6 n6 c6) n6 xs):=by
           have:=HK.out.1.d;rw[hxs]at this;rw[show(tFl (P.drop (j+1))++([41],-1)::L).length=n6 by rw[List.length_append,tFl_len,List.length_drop,List.length_cons,HN.out];omega]at this;exact this
          have hz6:w.heap.size<=wx.heap.size:=HK.out.1.ag.size;have HNX:Hid (∀p c8 w8,w8.ownsRow w.heap.size 125 2 (.slice p (n6+2) c8) (n6+2) (xs++[.string ⟨#[]⟩,.int .i64 fj,.string ⟨#[32]⟩,.int .i64 (-1)])->(wx.alloc (.cells #[.string ⟨#[]⟩,.int .i64 fj,.string ⟨#[32]⟩,.int .i64 (-1)] 125)).grownBy w8 (Value.slice p6 n6 c6).ownBlock->((Value.slice p (n6+2) c8).ownBlock=(Value.slice p6 n6 c6).ownBlock∨(Value.slice p (n6+2) c8).ownBlock=some (wx.alloc (.cells #[.string ⟨#[]⟩,.int .i64 fj,.string ⟨#[32]⟩,.int .i64 (-1)] 125)).heap.size)->Hid (TlK lo M Ib B w wr.heap.size w2.heap.size a2 t P L (.slice op t.length oc) (.int .u8 114) (.int .i64 x.n) (.slice (some ⟨pb,po,none⟩) P.length pc) (40::Lib.itoa x.n) j (.slice p (n6+2) c8) w8)):=λp c8 w8 hown hg hat=>by
           rw[<-hfj]at hown;exact HK.out.next hj2 (by rw[HN.out];omega) hxs.symm hown hg hat
          clear hxs hn6 HK hfj;go_wp2_with (first
           |(at_builtin;refine wpList_app rfl (.tmp 75) (.tmp 83) 126 rfl w.heap.size 125 ti _ 2 24 Tryz.underlying126 hti ht0 ht1 ht2 rfl (by omega) (.slice p6 n6 c6) n6 xs (by simp[Act.eval]) (HD6.out.alloc _) ⟨wx.heap.size,0,none⟩ 2 2 [.string ⟨#[]⟩,.int .i64 fj,.string ⟨#[32]⟩,.int .i64 (-1)] (by simp[Act.eval]) rfl (by have h:=World.news_of_block (heap_alloc_new wx (Obj.cells #[.string ⟨#[]⟩,.int .i64 fj,.string ⟨#[32]⟩,.int .i64 (-1)] 125));simpa using h) (by intro u hu;simp at hu;rcases hu with rfl|rfl|rfl|rfl<;>rfl) (by unfold maxLen;omega) (by omega) (by rw[World.size_alloc];omega) ?_;intro p8 c8 w8 hown hgrow hat;have HK8:=hid ((HNX.out p8 c8 w8 hown hgrow hat).out);clear hown hgrow hat HNX))
          refine⟨⟨j,p8,c8,by omega,by go_num,rfl,?_⟩,by simp[intOf]⟩;rw[<-hn7];exact HK8
       ·have hb1:kByte x.kind≠105:=λe=>hk1 (kb1.1 e);have hb3:kByte x.kind≠114:=λe=>hk3 (kb3.1 e);have HPI:Hid (tPiece x=[102,117,110]):=by show _=_;unfold tPiece;rw[if_neg hk1,if_neg hk3]
        have HMO:Hid (tMore x=[]):=by show _=_;unfold tMore;rw[if_neg hk3]
        have eb1:(kByte x.kind==105)=false:=by rw[beq_eq_false_iff_ne];exact hb1
        have eb3:(kByte x.kind==114)=false:=by rw[beq_eq_false_iff_ne];exact hb3
        obtain⟨⟨z0,zf⟩,HTX,z1⟩:=HSTO.out W4 ⟨#[102,117,110]⟩ (Below.refl _ _);generalize kByte x.kind=kk at*;clear kb1 kb3 HIT;go_wp2;go_meet
        refine⟨a2,[102,117,110],L,_,_,by rw[HN.out],HTX.out.1.less (λb hb=>List.mem_cons_of_mem _ hb),z1,⟨HFI.out.1,by have:=HFI.out.2;rw[HMO.out]at this;exact this⟩,by show _=_;rw[HCE.out,HPI.out,HMO.out];rfl,by simp,⟨by have:=(HBB.out 0 (by omega)).1;rw[HN.out];omega,HPS.out⟩,by have:=(HBB.out 0 (by omega)).2;show _<_;rw[HN.out];omega⟩
     ·rw[hsb]at HST;rw[etv]at HCE;simp only at HCE;clear hLE hRO hsp etv hsb hee HTM;obtain⟨vv,hvv⟩:∃vv,vZ (aWork gs c a).2=vv:=⟨_,rfl⟩;rw[hvv]at HWK;clear hvv;generalize (aWork gs c a).1=aw at*;go_wp2_with (first
       |(go_at_call 36;refine HWK.out.mono ?_;rintro e w1 ⟨rfl,HT1,HE1⟩;have HS1:=hid (HST.out w1 HT1.out HE1.out);clear HWK HST)
       |(go_at_call 37;refine HS1.out.mono ?_;rintro e w2 ⟨rfl,HT2,HE2⟩;clear HS1 HT1 HE1))
      go_ret;rw[HCE.out];exact HT2.out.res _
    ·have HRP:=hid (HR.out.trans (tEnd_piece h0));go_wp2;go_meet
     exact⟨a,s,L,_,_,by rw[HN.out],HTM.out,q0,⟨HWF.out.1,HWF.out.2.tail⟩,HRP.out,by omega,⟨by have:=HL'.out;omega,HPS.out⟩,by have:=HN.out;show _<_;omega⟩
   case rest=>
    rename World=>wx
    obtain⟨a1,s1,L1,tp1,tc1,rfl,HT1,y0,HWF1,HR1,hs1l,HLB1,HM1⟩:=hcut;clear HTM HR HPS HL' HWF HN q0 q1 hs0 hs1 hW0;by_cases hle:t.length+s1.length<=2000
    ·have HX:Hid (R=tEnd gs L1 a1 (t++s1)):=by show _=_;rw[HR1.out,tSay,if_pos hle]
     have i0:¬(2000:Int)<(t.length:Int)+(s1.length:Int):=by omega
     have HNX:Hid (∀v' w2,w2.ownsRow w.heap.size 5 1 v' (t.length+(⟨s1.toArray⟩:ByteArray).size) (btC t++Lib.strCells ⟨s1.toArray⟩)->wx.grownBy w2 (Value.slice op t.length oc).ownBlock->(∀b,v'.ownBlock=some b->(Value.slice op t.length oc).ownBlock=some b∨wx.heap.size<=b)->∃p c,v'=.slice p (t++s1).length c∧Hid (TlI lo M Ib B w [] a1 (t++s1) L1 v' (.slice tp1 L1.length tc1) w2)):=by
      intro v' w2 hown hg hat;have e1:(⟨s1.toArray⟩:ByteArray).size=s1.length:=by show s1.toArray.size=_;simp
      have e3:btC t++Lib.strCells ⟨s1.toArray⟩=btC (t++s1):=by rw[btC_app']
      rw[e1,<-List.length_append,e3]at hown;obtain⟨p,c,e2⟩:=row_slice hown;exact⟨p,c,e2,((HT1.out.less (F:=[]) λb hb=>by cases hb).said hown hg hat)⟩
     have HOW:=hid HT1.out.o;have hlz:w.heap.size<=wx.heap.size:=HT1.out.ag.size;have hbs:(⟨s1.toArray⟩:ByteArray).size=s1.length:=by show s1.toArray.size=_;simp
     clear HT1;go_wp2_with (first
      |(at_builtin;refine wpApp_str rfl (.tmp 94) (.tmp 96) 121 9 rfl w.heap.size 5 ii Tryz.underlying121 Tryz.underlying9 hii hi0 hi1 hi2 (.slice op t.length oc) t.length (btC t) rfl HOW.out ⟨s1.toArray⟩ rfl (by unfold maxLen;omega) (by omega) hlz ?_;intro v' w7 hown hgrow hat;obtain⟨p2,c2,rfl,HT7⟩:=HNX.out _ _ hown hgrow hat;clear hown hgrow hat))
     refine⟨⟨a1,t++s1,L1,p2,c2,tp1,tc1,by rw[List.length_append],rfl,(by have h:=HT7.out;rw[List.length_append]at h;exact h),HWF1.out,HX.out,by rw[List.length_append];exact hle,HLB1.out⟩,?_⟩;have hm7:rmu M w7=mu a1:=by
      obtain⟨B',h1,-⟩:=HT7.out.r;exact h1.mu
     show 1000*rmu M w7+L1.length<1000*rmu M wr+(N+1);rw[hm7,HMU.out];exact HM1.out
    ·have HX:Hid (R=(rEnd 8 a1,none)):=by show _=_;rw[HR1.out,tSay,if_neg hle]
     have i0:(2000:Int)<(t.length:Int)+(s1.length:Int):=by omega
     have HEN:Hid (Calls Tryz.prog 39 #[.pointer (some ⟨M,0,none⟩),.int .i64 8] wx λe w'=>e=.returned (.tuple #[])∧Hid (RRes lo M Ib B w (rEnd 8 a1) (.string ⟨#[]⟩) (.returned (.string ⟨#[]⟩)) w')):=by
      obtain⟨B0,hM0,hcall⟩:=HT1.out.call;refine(rEnd_any 8 hM0).mono λe w1 hr=>?_;have he:=hr.1;exact⟨he,(hcall _ _ _ _ hr).1.res _⟩
     have hbs:(⟨s1.toArray⟩:ByteArray).size=s1.length:=by show s1.toArray.size=_;simp
     clear HT1;go_wp2_with (first
      |(go_at_call 39;refine HEN.out.mono ?_;rintro e w7 ⟨rfl,HRR⟩))
     go_ret;rw[HX.out];exact HRR.out
def aGlobs(k:Nat):List MCl:=(List.range k).map λi:Nat=>⟨4,(i:Int),0,0,[]⟩
def aInit(k:Nat)(fuel spare:Int):ASt:=⟨aGlobs k,⟨[],0,0⟩,[],clipN fuel 2000000,clipN spare 2000000,0,0,0,false⟩
def aTold(gs:List LGlob)(main fuel spare:Int):TRes:=tEnd gs [([],main)] (aInit gs.length fuel spare) []
def aOut(gs:List LGlob)(main fuel spare:Int):Value:=
 .agg #[.int .i64 (aTold gs main fuel spare).1.kind,.string ⟨((aTold gs main fuel spare).2.getD []).toArray⟩,.int .i64 (aTold gs main fuel spare).1.steps,.int .i64 (aTold gs main fuel spare).1.used]
theorem clip_le(n:Int):0<=clipN n 2000000∧clipN n 2000000<=2000000:=by
 unfold clipN;split
 ·omega
 ·split<;>omega
theorem init_wf{gs:List LGlob}(hf:gs.length<=200000)(fuel spare:Int):WfB gs (aInit gs.length fuel spare):=by
 have h1:=clip_le fuel;have h2:=clip_le spare;have hl:(aGlobs gs.length).length=gs.length:=by simp[aGlobs]
 refine⟨λx hx=>?_,?_,⟨Int.le_refl _,h1.1⟩,h1.2,⟨Int.le_refl _,h2.1⟩,h2.2,rfl⟩
 ·obtain⟨i,hi,rfl⟩:=List.mem_map.1 hx;have hi:=List.mem_range.1 hi;exact⟨⟨by simp,by simp⟩,λe=>(by simp at e),λe=>(by simp at e),λ_=>⟨by simp,by simp;omega⟩,λr hr=>(by cases hr),(by simp),⟨by show _<=(i:Int);omega,by show(i:Int)<=_;omega⟩⟩
 ·show(((aGlobs gs.length).length:Nat):Int)=(gs.length:Int)+0;rw[hl];omega
theorem RM.addG{lo:Nat}{w:World}{M Ib:Nat}{st:ASt}{B:List Nat}(h:RM lo w M Ib st B)(x:MCl)(hx:cP x=[]):∃cp cc xs,w.cell? ⟨M,1,none⟩=some (.slice cp st.cells.length cc)∧w.ownsRow lo 88 3 (.slice cp st.cells.length cc) st.cells.length xs∧∀o p c7 w7,w7.ownsRow lo 88 3 (.slice p (st.cells.length+1) c7) (st.cells.length+1) (xs++[.int .u8 (kByte x.kind),.int .i64 (cN x),.slice none 0 0])->(w.alloc o).grownBy w7 (Value.slice cp st.cells.length cc).ownBlock->((Value.slice p (st.cells.length+1) c7).ownBlock=(Value.slice cp st.cells.length cc).ownBlock∨(Value.slice p (st.cells.length+1) c7).ownBlock=some (w.alloc o).heap.size)->(w7.cell? ⟨M,1,none⟩=some (.slice cp st.cells.length cc)∧w7.frozen? ⟨M,1,none⟩=false)∧RRes lo M Ib B w (rAdd x st) (.tuple #[]) (.returned (.tuple #[])) (w7.setCell ⟨M,1,none⟩ (.slice p (st.cells.length+1) c7)):=by
 obtain⟨cs,ds,cv,sv,dv,h,hBe⟩:=h;obtain⟨cp,cc,rfl⟩:=row_slice h.cl;have hcs:cs.length=st.cells.length:=by rw[<-h.hcs,List.length_map]
 have e1:=h.m.at 1 rfl;rw[<-hcs];refine⟨cp,cc,cs.flatMap rcC,e1,h.cl,λo p c7 w7 hown hg hat=>?_⟩;have hbz:Below w.heap.size w (w.alloc o):=(Below.refl _ _).alloc (Nat.le_refl _) _;have hA:AG (vB (.slice cp cs.length cc)) w w7:=AG.append hbz hg;have hnM:M∉vB (.slice cp cs.length cc):=λhm=>(List.nodup_cons.1 h.nd).1 (List.mem_append_left _ hm);have hbM:=hA.block M h.m.lt hnM;obtain⟨t1,t2,t3⟩:=h.turnC hA (cv':=.slice p (cs.length+1) c7) (cs':=cs++[(x,.slice none 0 0)]) (by
  rw[List.length_append,List.flatMap_append];simp only[List.length_cons,List.length_nil,List.flatMap_cons,List.flatMap_nil,List.append_nil,rcC];exact hown) (λy hy=>by
  rcases List.mem_append.1 hy with hy|hy
  ·exact h.fl y hy
  ·obtain rfl:=List.mem_singleton.1 hy;exact⟨none,0,by rw[hx];rfl,λi hi=>by rw[hx]at hi;cases hi⟩) (λb hb'=>by
  have hb':=mem_vB.1 hb';rcases hat with e|e
  ·rw[e]at hb';exact Or.inl (mem_vB.2 hb')
  ·rw[e]at hb';cases hb';right;simp)
 rw[List.map_append,h.hcs]at t1;rw[<-hBe]at t2 t3;exact⟨⟨cell_same hbM e1,by rw[World.frozen?_of_block (a:=⟨M,1,none⟩) hbM];exact h.m.fz 1⟩,rfl,t2,_,⟨_,_,_,_,_,t1,rfl⟩,t3⟩
theorem FBL.newL(w:World)(L:List Value)(t:TypeId):FBL (w.alloc (.cells L.toArray t)) w.heap.size L:=by
 refine⟨λj hj=>?_,λj=>frozen_new _ _ _ _,by simp⟩;refine alloc_cell w L.toArray _ _ _ ?_;rw[List.getElem?_toArray,List.getElem?_eq_getElem hj];rfl
theorem RM.new{lo:Nat}{w:World}(hlo:lo<=w.heap.size)(Ib:Nat)(fuel spare:Int):RM lo (w.alloc (.cells (rL Ib (.slice none 0 0) (.slice none 0 0) (.slice none 0 0) (aInit 0 fuel spare)).toArray 86)) w.heap.size Ib (aInit 0 fuel spare) [w.heap.size]:=by
 have hnil:∀t n,(w.alloc (.cells (rL Ib (.slice none 0 0) (.slice none 0 0) (.slice none 0 0) (aInit 0 fuel spare)).toArray 86)).ownsRow lo t n (.slice none 0 0) 0 []:=λt n=>⟨by simp,Or.inl ⟨rfl,rfl⟩⟩;refine⟨[],[],.slice none 0 0,.slice none 0 0,.slice none 0 0,⟨?_,hnil _ _,λx hx=>(by cases hx),hnil _ _,hnil _ _,λx hx=>(by cases hx),rfl,rfl,(by simp[rB,vB_nil,dB]),hlo⟩,(by simp[rB,vB_nil,dB])⟩;exact FBL.newL w _ _
theorem aGlobs_succ(k:Nat):aGlobs (k+1)=aGlobs k++[⟨4,(k:Int),0,0,[]⟩]:=by
 unfold aGlobs;rw[List.range_succ,List.map_append];rfl
theorem aGlobs_len(k:Nat):(aGlobs k).length=k:=by simp[aGlobs]
def zOu:List Value:=[.int .i64 0,.string ⟨#[]⟩,.int .i64 0,.int .i64 0]
theorem out_any{w:World}{b:Nat}(h:FBL w b zOu)(x y z u:Value):FBL ((((w.setCell ⟨b,0,none⟩ x).setCell ⟨b,1,none⟩ y).setCell ⟨b,2,none⟩ z).setCell ⟨b,3,none⟩ u) b [x,y,z,u]:=
 FBL.set (FBL.set (FBL.set (FBL.set h (i:=0) (by simp[zOu]) _) (i:=1) (by simp[zOu]) _) (i:=2) (by simp[zOu]) _) (i:=3) (by simp[zOu]) _
theorem told_end{gs:List LGlob}{D:Nat->Nat->Int}{main:Int}(hG:ImgOk gs D)(hf:gs.length<=200000)(hm:0<=main∧main<(gs.length:Int))(fuel spare:Int):(∃a1 t1,aTold gs main fuel spare=(a1,some t1)∧a1.ended=false)∨(∃a1,aTold gs main fuel spare=(a1,none)∧a1.ended=true):=by
 have hT:TdOk [([],main)] (aInit gs.length fuel spare):=λp hp=>by
  rw[List.mem_singleton.1 hp];show main<((aGlobs gs.length).length:Int);rw[aGlobs_len];exact hm.2
 rcases tEnd_app hG (tM [([],main)] (aInit gs.length fuel spare)) (L:=[]) (t:=[]) (init_wf hf fuel spare) hT (λp hp=>by cases hp) (Nat.le_refl _) with⟨a1,t1,e,-,hW,-⟩|⟨a1,e,-,hen⟩
 ·exact Or.inl ⟨a1,t1,e,hW.live⟩
 ·exact Or.inr ⟨a1,e,hen⟩
def RuJ(lo M Ib:Nat)(W1:World)(fuel spare:Int)(k:Nat)(wr:World):Prop:=RRes lo M Ib [M] W1 (aInit k fuel spare) (.tuple #[]) (.returned (.tuple #[])) wr
theorem rRun_any{w:World}{Ib:Nat}{gs:List LGlob}{D:Nat->Nat->Int}{main:Int}{gv:Value}(fuel spare:Int)(hG:ImgOk gs D)(hm:0<=main∧main<(gs.length:Int))(h0:w.cell? ⟨Ib,0,none⟩=some gv)(h1:w.cell? ⟨Ib,1,none⟩=some (.int .i64 main))(hg:GlobsAt w gv gs)(htab:Lib.TabIs Tryz.prog w "internal/strconv.uint64pow10" .u64 Lib.pow10Tab):
 Calls Tryz.prog 11 #[.pointer (some ⟨Ib,0,none⟩),.int .i64 fuel,.int .i64 spare] w λe w'=>e=.returned (aOut gs main fuel spare)∧Below w.heap.size w w':=by
 obtain⟨ii,hii,hij⟩:=Option.map_eq_some_iff.1 Tryz.rcellK;simp only[Prod.mk.injEq]at hij;obtain⟨hi0,hi1,hi2⟩:=hij;obtain⟨gp,gc,rfl,-⟩:=id hg;obtain⟨W0,hW0⟩:∃W0,w.alloc (.cells #[.int .i64 0,.string ⟨#[]⟩,.int .i64 0,.int .i64 0] 36)=W0:=⟨_,rfl⟩;have hb0:Below w.heap.size w W0:=by rw[<-hW0];exact(Below.refl _ _).alloc (Nat.le_refl _) _
 have hz0:W0.heap.size=w.heap.size+1:=by rw[<-hW0];simp
 have hR:FBL W0 w.heap.size [.int .i64 0,.string ⟨#[]⟩,.int .i64 0,.int .i64 0]:=by rw[<-hW0];exact FBL.newL w [.int .i64 0,.string ⟨#[]⟩,.int .i64 0,.int .i64 0] _
 have HIM:Hid (ImR W0.heap.size W0 Ib gs (.int .i64 main)):=⟨W0,rfl,Below.refl _ _,_,cell_keep hb0 h0,cell_keep hb0 h1,hg.keep hb0⟩;have HTB:Hid (Lib.TabBelow Tryz.prog W0.heap.size W0 "internal/strconv.uint64pow10" .u64 Lib.pow10Tab):=Lib.tabBelow_of_tabIs (Lib.tabBelow_of_tabIs htab W0 hb0);obtain⟨W1,hW1⟩:∃W1,W0.alloc (.cells #[.pointer (some ⟨Ib,0,none⟩),.slice none 0 0,.slice none 0 0,.int .i64 0,.int .i64 0,.slice none 0 0,.int .i64 (clipN fuel 2000000),.int .i64 (clipN spare 2000000),.int .i64 0,.string ⟨#[]⟩,.int .i64 0,.int .i64 0,.bool false] 86)=W1:=⟨_,rfl⟩;have hb1:Below W0.heap.size W0 W1:=by rw[<-hW1];exact(Below.refl _ _).alloc (Nat.le_refl _) _
 have HJ0:Hid (RuJ W0.heap.size W0.heap.size Ib W1 fuel spare 0 W1):=⟨rfl,AG.refl _ _,[W0.heap.size],by rw[<-hW1];exact RM.new (Nat.le_refl W0.heap.size) Ib fuel spare,λb hb=>Or.inl hb⟩;have HKP:Hid (∀X,AG [W0.heap.size] W1 X->Below W0.heap.size W0 X):=λX hX=>hb1.trans (hX.low (λb hb=>by rw[List.mem_singleton.1 hb];exact Nat.le_refl _) hb1.size);have HCL:Hid (∀n X,Calls Tryz.prog 21 #[.int .i64 n,.int .i64 2000000] X λe w'=>e=.returned (.int .i64 (clipN n 2000000))∧w'=X):=λn X=>clip_any n 2000000 X;have HG:=hid hG;have hfew:=hG.few;have HB0:=hid hb0;have HRR:=hid hR;have k0:=cell_keep hb0 h0;have k1:=cell_keep hb0 h1;have HZ0:=hid hz0;clear h0 h1 hg htab hb0 hR hG hz0;go_enter Tryz.func11,Tryz.ntmps11;go_upto_region 3 with(first
  |(go_at_call 21;refine(HCL.out _ _).mono ?_;rintro e wc ⟨rfl,hwc⟩;rw[hwc];clear hwc wc))
 clear HCL;go_loopw [8] (λv8 wr=>∃k,k<=gs.length∧v8=.int .i64 (k:Int)∧Hid (RuJ W0.heap.size W0.heap.size Ib W1 fuel spare k wr)) (λv8 _=>gs.length-(intOf v8).toNat)
 case atStart=>exact⟨0,Nat.zero_le _,rfl,HJ0.out⟩
 case round=>
  rename World=>wr
  clear HJ0;obtain⟨k,hk,rfl,HJ⟩:=hrel;have hbr:=HKP.out wr HJ.out.2.1;have y0:=cell_keep hbr k0;have y1:=cell_keep hbr k1;clear hb1 hW1 hW0 k0 k1;by_cases hkl:k<gs.length
  ·have i0:(k:Int)<(gs.length:Int):=by omega
   obtain⟨-,hA,B',hM,hB⟩:=HJ.out;obtain⟨cp,cc,xs,m1,hown0,hnx⟩:=hM.addG ⟨4,(k:Int),0,0,[]⟩ rfl;rw[show(aInit k fuel spare).cells.length=k from aGlobs_len k]at m1 hown0 hnx;have HOW:=hid hown0;have hz:W0.heap.size<=wr.heap.size:=hbr.size;have HNX:Hid (∀p c7 w7,w7.ownsRow W0.heap.size 88 3 (.slice p (k+1) c7) (k+1) (xs++[.int .u8 103,.int .i64 (k:Int),.slice none 0 0])->(wr.alloc (.cells #[.int .u8 103,.int .i64 (k:Int),.slice none 0 0] 88)).grownBy w7 (Value.slice cp k cc).ownBlock->((Value.slice p (k+1) c7).ownBlock=(Value.slice cp k cc).ownBlock∨(Value.slice p (k+1) c7).ownBlock=some (wr.alloc (.cells #[.int .u8 103,.int .i64 (k:Int),.slice none 0 0] 88)).heap.size)->(w7.cell? ⟨W0.heap.size,1,none⟩=some (.slice cp k cc)∧w7.frozen? ⟨W0.heap.size,1,none⟩=false)∧Hid (RuJ W0.heap.size W0.heap.size Ib W1 fuel spare (k+1) (w7.setCell ⟨W0.heap.size,1,none⟩ (.slice p (k+1) c7)))):=λp c7 w7 a1 a2 a3=>by
    obtain⟨b1,b2⟩:=hnx _ p c7 w7 a1 a2 a3;refine⟨b1,?_⟩;have:=b2.of hA hB (r':=.tuple #[]) (e':=.returned (.tuple #[])) rfl;rw[show rAdd ⟨4,(k:Int),0,0,[]⟩ (aInit k fuel spare)=aInit (k+1) fuel spare by unfold aInit;rw[aGlobs_succ];rfl]at this;exact this
   clear hA hM hB hown0 hnx;go_wp2_with (first
    |(at_builtin;refine wpList_app rfl (.tmp 30) (.tmp 33) 80 rfl W0.heap.size 88 ii _ 3 40 Tryz.underlying80 hii hi0 hi1 hi2 rfl (by omega) (.slice cp k cc) k xs (by simp[Act.eval]) (HOW.out.alloc _) ⟨wr.heap.size,0,none⟩ 1 1 [.int .u8 103,.int .i64 (k:Int),.slice none 0 0] (by simp[Act.eval]) rfl (by have h:=World.news_of_block (heap_alloc_new wr (Obj.cells #[.int .u8 103,.int .i64 (k:Int),.slice none 0 0] 88));simpa using h) (by intro u hu;simp at hu;rcases hu with rfl|rfl|rfl<;>rfl) (by unfold maxLen;omega) (by omega) (by rw[World.size_alloc];omega) ?_;intro p7 c7 w7 hown hgrow hat;obtain⟨⟨z0,zf⟩,HJ7⟩:=HNX.out p7 c7 w7 hown hgrow hat;clear hown hgrow hat HNX))
   refine⟨⟨k+1,by omega,by go_num,HJ7.out⟩,by simp[intOf];omega⟩
  ·obtain rfl:k=gs.length:=by omega
   have i0:¬(gs.length:Int)<(gs.length:Int):=by omega
   have HTL:Hid (Calls Tryz.prog 22 #[.pointer (some ⟨W0.heap.size,0,none⟩),.int .i64 main] wr λe w'=>e=.returned (.string ⟨((aTold gs main fuel spare).2.getD []).toArray⟩)∧Hid (RRes W0.heap.size W0.heap.size Ib [W0.heap.size] W1 (aTold gs main fuel spare).1 (.tuple #[]) (.returned (.tuple #[])) w')):=by
    obtain⟨-,hA,B',hM,hB⟩:=HJ.out;refine(rTell_any HG.out (init_wf hfew fuel spare) hM (HIM.out.low hbr) (λX hX=>HTB.out X (hbr.trans hX)) main ⟨hm.1,by show main<((aGlobs gs.length).length:Int);rw[aGlobs_len];exact hm.2⟩).mono λe w' hr=>?_;have he:=hr.1;exact⟨he,hr.of hA hB rfl⟩
   go_upto_region 7 with(first
    |(go_at_call 22;refine HTL.out.mono ?_;rintro e w5 ⟨rfl,HR5⟩;clear HTL))
   obtain⟨-,hA5,B5,⟨cs,ds,cv,sv,dv,hm5,-⟩,-⟩:=HR5.out;have hb5:=HKP.out w5 hA5;have n8:=hm5.m.at 8 rfl;have n9:=hm5.m.at 9 rfl;have n10:=hm5.m.at 10 rfl;have n11:=hm5.m.at 11 rfl;have n12:=hm5.m.at 12 rfl;have f9:=hm5.m.fz 9;have hlt:w.heap.size<W0.heap.size:=by rw[HZ0.out];omega
   have hne:w.heap.size≠W0.heap.size:=by omega
   have hR6:FBL w5 w.heap.size zOu:=HRR.out.of_block (hb5.block _ hlt) hb5.size;have HB6:=hid (HB0.out.trans (hb5.mono HB0.out.size));have hto:=told_end HG.out hfew hm fuel spare;clear hm5 hA5 HR5 HJ y0 y1 hb5;rcases hto with⟨a1,t1,et,hen⟩|⟨a1,et,hen⟩
   ·rw[et]at n8 n10 n11 n12 ⊢;simp only[hen]at n8 n10 n11 n12;simp only[Option.getD_some];have HOUT:Hid (aOut gs main fuel spare=.agg #[.int .i64 a1.kind,.string ⟨t1.toArray⟩,.int .i64 a1.steps,.int .i64 a1.used]):=by show _=_;unfold aOut;rw[et];rfl
    clear et;have HR7:Hid (FBL (w5.setCell ⟨W0.heap.size,9,none⟩ (.string ⟨t1.toArray⟩)) w.heap.size zOu):=hR6.of_block (Below.heap_setCell _ _ _ _ hne) (by simp);have q0:=hR6.at 0 rfl;have q1:=hR6.at 1 rfl;have q2:=hR6.at 2 rfl;have q3:=hR6.at 3 rfl;have g0:=hR6.fz 0;have g1:=hR6.fz 1;have g2:=hR6.fz 2;have g3:=hR6.fz 3;clear hR6;go_wp2;have hF:=out_any HR7.out (.int .i64 a1.kind) (.string ⟨t1.toArray⟩) (.int .i64 a1.steps) (.int .i64 a1.used);have d0:=hF.at 0 rfl;have d1:=hF.at 1 rfl;have d2:=hF.at 2 rfl;have d3:=hF.at 3 rfl;refine bodyPost_ret (v:=.agg #[.int .i64 a1.kind,.string ⟨t1.toArray⟩,.int .i64 a1.steps,.int .i64 a1.used]) (by simp[results,Tryz.results11,go_sem,d0,d1,d2,d3]) rfl ⟨by rw[HOUT.out],?_⟩;exact((((HB6.out.setCell (Nat.le_of_lt hlt) _).setCell (Nat.le_refl _) _).setCell (Nat.le_refl _) _).setCell (Nat.le_refl _) _).setCell (Nat.le_refl _) _
   ·rw[et]at n8 n10 n11 n12 ⊢;simp only[hen]at n8 n10 n11 n12;simp only[Option.getD_none];have HOUT:Hid (aOut gs main fuel spare=.agg #[.int .i64 a1.kind,.string ⟨#[]⟩,.int .i64 a1.steps,.int .i64 a1.used]):=by show _=_;unfold aOut;rw[et];rfl
    clear et;have HR7:=hid hR6;have q0:=hR6.at 0 rfl;have q1:=hR6.at 1 rfl;have q2:=hR6.at 2 rfl;have q3:=hR6.at 3 rfl;have g0:=hR6.fz 0;have g1:=hR6.fz 1;have g2:=hR6.fz 2;have g3:=hR6.fz 3;clear hR6;go_wp2;have hF:=out_any HR7.out (.int .i64 a1.kind) (.string ⟨#[]⟩) (.int .i64 a1.steps) (.int .i64 a1.used);have d0:=hF.at 0 rfl;have d1:=hF.at 1 rfl;have d2:=hF.at 2 rfl;have d3:=hF.at 3 rfl;refine bodyPost_ret (v:=.agg #[.int .i64 a1.kind,.string ⟨#[]⟩,.int .i64 a1.steps,.int .i64 a1.used]) (by simp[results,Tryz.results11,go_sem,d0,d1,d2,d3]) rfl ⟨by rw[HOUT.out],?_⟩;exact(((HB6.out.setCell (Nat.le_refl _) _).setCell (Nat.le_refl _) _).setCell (Nat.le_refl _) _).setCell (Nat.le_refl _) _
theorem FBL.newO(w:World)(x y z u:Value)(t:TypeId):FBL (w.alloc (.cells #[x,y,z,u] t)) w.heap.size [x,y,z,u]:=by
 refine⟨λj hj=>?_,λj=>frozen_new _ _ _ _,by simp⟩;have:j=0∨j=1∨j=2∨j=3:=by simp at hj;omega
 rcases this with rfl|rfl|rfl|rfl<;>exact alloc_cell w #[x,y,z,u] _ _ _ rfl
theorem Pg.up{lo lo':Nat}{w:World}{Pb ng:Nat}{gp:Option Addr}{gc:Nat}{G:Nat->Int×Option Addr×Nat×Nat}(h:Pg lo w Pb ng gp gc G)(hl:lo<=lo'):Pg lo' w Pb ng gp gc G:=⟨Nat.lt_of_lt_of_le h.lt hl,h.c,λi hi=>by
 obtain⟨b,o,h1,h2⟩:=h.g i hi;exact⟨b,o,Nat.lt_of_lt_of_le h1 hl,h2⟩⟩
theorem CdAt.up{lo lo':Nat}{w:World}{v:Value}{l:List LIns}(h:CdAt lo w v l)(hl:lo<=lo'):CdAt lo' w v l:=h.imp id λh=>by
 obtain⟨B,L,h1,h2,h3,h4,h5⟩:=h;refine⟨B,L,Nat.lt_of_lt_of_le h1 hl,h2,h3,h4,λx hx=>?_⟩;obtain⟨B',g1,g2⟩:=h5 x hx;exact⟨B',Nat.lt_of_lt_of_le g1 hl,g2⟩
section
variable {w:World} {Pb:Nat} {gs:List LGlob} {D:Nat->Nat->Int} {gp:Option Addr} {gc:Nat} {G:Nat->Int×Option Addr×Nat×Nat} {main:Int}
theorem init_kz(k:Nat)(fuel spare:Int):KZ (aInit k fuel spare):=⟨(λh=>by cases h),λ_=>rfl⟩
theorem init_sim(k:Nat)(fuel spare:Int):SimT [] (aInit k fuel spare) (newSt k (clipN fuel 2000000) (clipN spare 2000000)):=⟨rfl,rfl,rfl,rfl,rfl,rfl,rfl⟩
def RnT(w:World)(M:Nat)(kd su mu:Int)(tx:List UInt8)(w2:World):Prop:=Below w.heap.size w w2∧(w2.cell? ⟨M,12,none⟩=some (.int .i64 kd)∧w2.cell? ⟨M,7,none⟩=some (.int .i64 su)∧w2.cell? ⟨M,9,none⟩=some (.int .i64 mu))∧∃p n c,w2.cell? ⟨M,13,none⟩=some (.slice p n c)∧(kd=0->∀X,Below w2.heap.size w2 X->(convert 121 9 (.slice p n c)).run Tryz.prog X=.ok (.string ⟨tx.toArray⟩) X)
theorem run_any(fuel spare:Int)(hG:ImgOk gs D)(hP:ImG w.heap.size w Pb gs gp gc G)(hm:0<=main∧main<(gs.length:Int))(e1:w.cell? ⟨Pb,1,none⟩=some (.int .i64 main))(htab:Lib.TabBelow Tryz.prog w.heap.size w "internal/strconv.uint64pow10" .u64 Lib.pow10Tab):
 Calls Tryz.prog 20 #[.pointer (some ⟨Pb,0,none⟩),.int .i64 fuel,.int .i64 spare] w λe w'=>e=.returned (aOut gs main fuel spare)∧Below w.heap.size w w':=by
 have hf:=hG.few;obtain⟨W0,hW0⟩:∃W0,w.alloc (.cells #[.int .i64 0,.string ⟨#[]⟩,.int .i64 0,.int .i64 0] 36)=W0:=⟨_,rfl⟩;have hb0:Below w.heap.size w W0:=by rw[<-hW0];exact(Below.refl _ _).alloc (Nat.le_refl _) _
 have hR:FBL W0 w.heap.size zOu:=by
  rw[<-hW0];exact FBL.newO w _ _ _ _ _
 obtain⟨kd,hkd⟩:∃kd,(aTold gs main fuel spare).1.kind=kd:=⟨_,rfl⟩;obtain⟨su,hsu⟩:∃su,(aTold gs main fuel spare).1.steps=su:=⟨_,rfl⟩;obtain⟨mu,hmu⟩:∃mu,(aTold gs main fuel spare).1.used=mu:=⟨_,rfl⟩;obtain⟨tx,htx⟩:∃tx,(aTold gs main fuel spare).2.getD []=tx:=⟨_,rfl⟩;have HO:Hid (aOut gs main fuel spare=.agg #[.int .i64 kd,.string ⟨tx.toArray⟩,.int .i64 su,.int .i64 mu]):=by
  show _=_;unfold aOut;rw[hkd,hsu,hmu,htx]
 have hkz:KZ (aTold gs main fuel spare).1:=tEnd_kz _ _ (init_kz _ _ _);have hkt:kd≠0->tx=[]:=λh0=>by
  rcases told_end hG hf hm fuel spare with⟨a1,t1,e,he⟩|⟨a1,e,he⟩
  ·rw[e]at hkz hkd;exact absurd (hkd▸hkz.2 he) h0
  ·rw[e]at htx;exact htx.symm
 have HNM:Hid (Calls Tryz.prog 33 #[.pointer (some ⟨Pb,0,none⟩),.int .i64 (clipN fuel 2000000),.int .i64 (clipN spare 2000000)] W0 λe w1=>∃M:Nat,e=.returned (.pointer (some ⟨M,0,none⟩))∧w1.cell? ⟨Pb,1,none⟩=some (.int .i64 main)∧Hid (Calls Tryz.prog 35 #[.pointer (some ⟨M,0,none⟩),.int .i32 main] w1 λe w2=>(∃b,e=.returned (.bool b))∧w.heap.size<w2.heap.size∧Hid (FBL w2 w.heap.size zOu)∧Hid (RnT w M kd su mu tx w2))):=by
  have hP0:=hP.low hb0;have hz0:=hb0.size;have hc0:W0.cell? ⟨Pb,0,none⟩=some (.slice gp gs.length gc):=hP0.pg.c;refine(newMachine_any (clipN fuel 2000000) (clipN spare 2000000) hc0 (by omega)).mono ?_;rintro e w1 ⟨hb1,M,B,rfl,hM,hB⟩;refine⟨M,rfl,cell_keep (hb0.trans (hb1.mono hz0)) e1,?_⟩;have hPl:ImG W0.heap.size W0 Pb gs gp gc G:=⟨hP0.pg.up hz0,hP0.ar,λi hi=>(hP0.cd i hi).up hz0⟩;have hTG:TlG W0.heap.size Pb gs D gp gc G w1:=⟨hG,hPl.low hb1,λX hX=>htab X (hb0.trans ((hb1.mono hz0).trans (hX.mono hz0)))⟩;refine(tells (lo:=W0.heap.size) (M:=M) (Pb:=Pb) (gs:=gs) (D:=D) (gp:=gp) (gc:=gc) (G:=G) 2000 w1 _ B [] (aInit gs.length fuel spare) main (by simp) (by simp) hTG hM (init_sim _ _ _) (init_wf hf fuel spare) ?_).mono λe w2 hr=>?_
  ·show 0<=main∧main<((aGlobs gs.length).length:Int);rw[aGlobs_len];exact hm
  ·obtain⟨m',hs',he,hA,B2,⟨cs,ds,cv,sv,kv,dv,tv,hmm,-⟩,-⟩:=hr;have hb2:Below W0.heap.size W0 w2:=hb1.trans (hA.low hB hb1.size);have hb3:Below w.heap.size w w2:=hb0.trans (hb2.mono hz0);have hk:m'.kind=kd∧m'.su=su∧m'.mu=mu∧(kd=0->m'.text=tx):=by
    have hs2:TlS (aTold gs main fuel spare) m':=hs';rcases told_end hG hf hm fuel spare with⟨a1,t1,e,he⟩|⟨a1,e,he⟩
    ·rw[e]at hs2 hkd hsu hmu htx;exact⟨hs2.kind.trans hkd,hs2.su.trans hsu,hs2.mu.trans hmu,λ_=>hs2.text.trans htx⟩
    ·rw[e]at hs2 hkd hsu hmu hkz;exact⟨hs2.1.trans hkd,hs2.2.1.trans hsu,hs2.2.2.trans hmu,λh0=>absurd (hkd.trans h0) (hkz.1 he)⟩
   obtain⟨k1,k2,k3,k4⟩:=hk;have hR2:=hR.of_block (hb2.block _ hR.lt) hb2.size;obtain⟨tp,tc,htv⟩:=row_slice hmm.tx;refine⟨⟨_,he⟩,Nat.lt_of_lt_of_le hR.lt hb2.size,hR2,hb3,⟨by rw[<-k1];exact hmm.m.at 12 rfl,by rw[<-k2];exact hmm.m.at 7 rfl,by rw[<-k3];exact hmm.m.at 9 rfl⟩,tp,_,tc,by rw[hmm.m.at 13 rfl,htv],λh0 X hX=>?_⟩;have hx:=(hmm.keep hX).tx;rw[htv]at hx;rw[<-k4 h0];exact conv_row hx
 have hmi:IntKind.i32.wrap main=main:=by rw[IntKind.wrap_i32];omega
 clear hP e1 hb0 hR htab hkz hG hkd hsu hmu htx;go_enter Tryz.func20,Tryz.ntmps20;go_wp2_with (first
  |(go_at_call 34;refine(within_any _ _ _ (by omega)).mono ?_;rintro e w1 ⟨rfl,rfl⟩)
  |(go_at_call 33;refine HNM.out.mono ?_;rintro e w1 ⟨M,rfl,e1,HTL⟩;clear HNM)
  |(go_at_call 35;refine HTL.out.mono ?_;rintro e w2 ⟨⟨bb,rfl⟩,hlt,HRR,HRN⟩;clear HTL))
 obtain⟨hb2,⟨k12,k7,k9⟩,p,n,c,k13,hcv⟩:=id HRN.out;have HB2:=hid hb2;have HCV:=hid hcv;have k12a:=λo=>alloc_old w2 o _ _ _ k12;have k7a:=λo=>alloc_old w2 o _ _ _ k7;have k9a:=λo=>alloc_old w2 o _ _ _ k9;clear hb2 hcv HRN;go_region
 obtain⟨W6,hW6⟩:∃W6,(w2.alloc (Obj.cells #[.int .i64 kd,.string ⟨#[]⟩,.int .i64 su,.int .i64 mu] 36)).drew=W6:=⟨_,rfl⟩;have HB6:Hid (Below w2.heap.size w2 W6):=by rw[<-hW6];exact((Below.refl _ _).alloc (Nat.le_refl _) _).drew
 have hN:FBL W6 w2.heap.size [.int .i64 kd,.string ⟨#[]⟩,.int .i64 su,.int .i64 mu]:=by
  rw[<-hW6];exact(FBL.newO w2 _ _ _ _ _).of_block rfl (Nat.le_refl _)
 have n0:=hN.at 0 rfl;have n1:=hN.at 1 rfl;have n2:=hN.at 2 rfl;have n3:=hN.at 3 rfl;have nf:=hN.fz 1;have hne:w.heap.size≠w2.heap.size:=by omega
 have hne':w2.heap.size≠w.heap.size:=by omega
 have hR6:FBL W6 w.heap.size zOu:=HRR.out.of_block (HB6.out.block _ hlt) HB6.out.size;have q0:=hR6.at 0 rfl;have q1:=hR6.at 1 rfl;have q2:=hR6.at 2 rfl;have q3:=hR6.at 3 rfl;have g0:=hR6.fz 0;have g1:=hR6.fz 1;have g2:=hR6.fz 2;have g3:=hR6.fz 3;have HR6:=hid hR6;have HR7:Hid (FBL (W6.setCell ⟨w2.heap.size,1,none⟩ (.string ⟨tx.toArray⟩)) w.heap.size zOu):=hR6.of_block (Below.heap_setCell _ _ _ _ hne) (by simp);have m12:=cell_keep HB6.out k12;have m13:=cell_keep HB6.out k13;rw[hW6];have HB7:=hid (HB2.out.trans (HB6.out.mono HB2.out.size));clear hW6 hN hR6 k12 k7 k9 k13 k12a k7a k9a HB2 HRR;by_cases h0:kd=0
 ·have hcv:=HCV.out h0 W6 HB6.out;subst h0;clear HCV HB6 hkt;go_wp2;have hF:=out_any HR7.out (.int .i64 0) (.string ⟨tx.toArray⟩) (.int .i64 su) (.int .i64 mu);have d0:=hF.at 0 rfl;have d1:=hF.at 1 rfl;have d2:=hF.at 2 rfl;have d3:=hF.at 3 rfl;refine bodyPost_ret (v:=.agg #[.int .i64 0,.string ⟨tx.toArray⟩,.int .i64 su,.int .i64 mu]) (by simp[results,Tryz.results20,go_sem,d0,d1,d2,d3]) rfl ⟨by rw[HO.out],?_⟩;exact((((HB7.out.setCell (Nat.le_of_lt hlt) _).setCell (Nat.le_refl _) _).setCell (Nat.le_refl _) _).setCell (Nat.le_refl _) _).setCell (Nat.le_refl _) _
 ·obtain rfl:=hkt h0;clear HCV HB6 hkt HR7;go_wp2;have hF:=out_any HR6.out (.int .i64 kd) (.string ⟨#[]⟩) (.int .i64 su) (.int .i64 mu);have d0:=hF.at 0 rfl;have d1:=hF.at 1 rfl;have d2:=hF.at 2 rfl;have d3:=hF.at 3 rfl;refine bodyPost_ret (v:=.agg #[.int .i64 kd,.string ⟨#[]⟩,.int .i64 su,.int .i64 mu]) (by simp[results,Tryz.results20,go_sem,d0,d1,d2,d3]) rfl ⟨by rw[HO.out],?_⟩;exact(((HB7.out.setCell (Nat.le_refl _) _).setCell (Nat.le_refl _) _).setCell (Nat.le_refl _) _).setCell (Nat.le_refl _) _
theorem image_any(fuel spare:Int)(hG:ImgOk gs D)(hP:ImG w.heap.size w Pb gs gp gc G)(hm:0<=main∧main<(gs.length:Int))(e1:w.cell? ⟨Pb,1,none⟩=some (.int .i64 main))(htab:Lib.TabBelow Tryz.prog w.heap.size w "internal/strconv.uint64pow10" .u64 Lib.pow10Tab):
 Calls Tryz.prog 10 #[.pointer (some ⟨Pb,0,none⟩),.int .i64 fuel,.int .i64 spare] w λe w'=>e=.returned (aOut gs main fuel spare)∧Below w.heap.size w w':=by
 obtain⟨W0,hW0⟩:∃W0,w.alloc (.cells #[.int .i64 0,.string ⟨#[]⟩,.int .i64 0,.int .i64 0] 36)=W0:=⟨_,rfl⟩;have hb0:Below w.heap.size w W0:=by rw[<-hW0];exact(Below.refl _ _).alloc (Nat.le_refl _) _
 have hR:FBL W0 w.heap.size zOu:=by
  rw[<-hW0];exact FBL.newO w _ _ _ _ _
 have hz0:=hb0.size;have hP0:=hP.low hb0;have hPl:ImG W0.heap.size W0 Pb gs gp gc G:=⟨hP0.pg.up hz0,hP0.ar,λi hi=>(hP0.cd i hi).up hz0⟩;obtain⟨kd,tx,su,mu,hO⟩:∃kd tx su mu,aOut gs main fuel spare=.agg #[.int .i64 kd,.string tx,.int .i64 su,.int .i64 mu]:=⟨_,_,_,_,rfl⟩;rw[hO];have HRN:Hid (Calls Tryz.prog 20 #[.pointer (some ⟨Pb,0,none⟩),.int .i64 fuel,.int .i64 spare] W0 λe w1=>e=.returned (.agg #[.int .i64 kd,.string tx,.int .i64 su,.int .i64 mu])∧Hid (Below w.heap.size w w1)∧FBL w1 w.heap.size zOu):=(run_any fuel spare hG hPl hm (cell_keep hb0 e1) (λX hX=>htab X (hb0.trans (hX.mono hz0)))).mono λe w1 ⟨he,hb⟩=>⟨by rw[he,hO],hb0.trans (hb.mono hb0.size),hR.of_block (hb.block _ hR.lt) hb.size⟩;clear hP hP0 hPl hb0 hR hO e1 htab hG;go_enter Tryz.func10,Tryz.ntmps10;go_wp2_with (first
  |(go_at_call 20;refine HRN.out.mono ?_;rintro e w1 ⟨rfl,HB1,hR⟩;have HRR:=hid hR;have q0:=hR.at 0 rfl;have q1:=hR.at 1 rfl;have q2:=hR.at 2 rfl;have q3:=hR.at 3 rfl;have g0:=hR.fz 0;have g1:=hR.fz 1;have g2:=hR.fz 2;have g3:=hR.fz 3;clear hR))
 have hF:=out_any HRR.out (.int .i64 kd) (.string tx) (.int .i64 su) (.int .i64 mu);have d0:=hF.at 0 rfl;have d1:=hF.at 1 rfl;have d2:=hF.at 2 rfl;have d3:=hF.at 3 rfl;refine bodyPost_ret (v:=.agg #[.int .i64 kd,.string tx,.int .i64 su,.int .i64 mu]) (by simp[results,Tryz.results10,go_sem,d0,d1,d2,d3]) rfl ⟨rfl,?_⟩;exact(((HB1.out.setCell (Nat.le_refl _) _).setCell (Nat.le_refl _) _).setCell (Nat.le_refl _) _).setCell (Nat.le_refl _) _
end
section
variable {P:Nat->Prop} {w:World}
theorem AltsR.sp{v:Value}{l:List LAlt}(h:AltsR w P v l)(hs:short l.length):AlL P w v:=by
 unfold short at hs;rcases h with⟨c,rfl,rfl⟩|⟨g,cap,e,h1,h2,h3,hz,h4,-⟩
 ·exact⟨none,0,c,rfl,by omega,Or.inl rfl⟩
 ·exact⟨_,_,_,e,hs,Or.inr ⟨g,rfl,h2,hz,λi hi=>⟨_,_,(h4 i hi).1,(h4 i hi).2⟩⟩⟩
theorem CodeR.sp{v:Value}{l:List LIns}(h:CodeR w P v l)(hs:short l.length)(ha:∀i (hi:i<l.length),short l[i].alts.length):CoL P w v:=by
 unfold short at hs;rcases h with⟨c,rfl,rfl⟩|⟨g,cap,e,h1,h2,h3,hz,h4,-⟩
 ·exact⟨none,0,c,rfl,by omega,Or.inl rfl⟩
 ·refine⟨_,_,_,e,hs,Or.inr ⟨g,rfl,h2,hz,λi hi=>?_⟩⟩;obtain⟨av,c0,c1,c2,hA⟩:=h4 i hi;exact⟨_,_,av,c0,c1,c2,hA.sp (ha i hi)⟩
theorem KpQ.sp{O:LObj}{x y:Value×Value}(h:KpQ P w O x y){s:ByteArray}{w0:World}(hO:ObjAt w0 (.agg #[.string s,x.1,x.2]) O):ImL P w y.1∧GlL P w y.2:=by
 obtain⟨hI,hG⟩:=hO.globs;have hsI:=hI;have hsG:=hG;obtain⟨ip,icap,ei,hi1,hi2⟩:=hsI;obtain⟨gp,gcap,eg,hg1,hg2⟩:=hsG;unfold short at hi1 hg1;constructor
 ·rcases h.1 with⟨n,c,e1,e2⟩|⟨a,n,c,-,g,cap,e,h1,h2,h3,hz,h4,-⟩
  ·rw[ei]at e1;cases e1;refine⟨none,O.imps.length,icap,by rw[e2,ei],hi1,Or.inl ?_⟩;by_cases h0:O.imps.length=0
   ·exact h0
   ·obtain⟨b,o,e3,-⟩:=hi2 0 (by omega);cases e3
  ·exact⟨_,_,_,e,hi1,Or.inr ⟨g,rfl,h2,hz,λi hi=>⟨_,_,(h4 i hi).1,(h4 i hi).2⟩⟩⟩
 ·rcases h.2 with⟨n,c,e1,e2⟩|⟨a,n,c,-,g,cap,e,h1,h2,h3,hz,h4,-⟩
  ·rw[eg]at e1;cases e1;refine⟨none,O.globs.length,gcap,by rw[e2,eg],hg1,Or.inl ?_⟩;by_cases h0:O.globs.length=0
   ·exact h0
   ·obtain⟨b,o,cv,e3,-⟩:=hg2 0 (by omega);cases e3
  ·refine⟨_,_,_,e,hg1,Or.inr ⟨g,rfl,h2,hz,λi hi=>?_⟩⟩;obtain⟨cv,c0,c1,c2,c3,hC⟩:=h4 i hi;obtain⟨b,o,cv',-,-,-,-,-,hCA,-⟩:=hg2 i hi;obtain⟨cp,ccap,-,hs,hci⟩:=hCA;exact⟨_,_,_,cv,c0,c1,c2,c3,hC.sp hs λk hk=>by
    obtain⟨b,o,av,-,-,-,-,hA⟩:=hci k hk;obtain⟨ap,acap,-,hs2,-⟩:=hA;exact hs2⟩
theorem RoomsR.sp{p rp:Option Addr}{cap rc:Nat}{Os:List LObj}{V:List (Value×Value)}{w0:World}(h:RoomsR P w (.slice p Os.length cap) (.slice rp Os.length rc) Os V)(hV:OV w0 p Os V):Os.length=0∨∃g,rp=some ⟨g,0,none⟩∧P g∧(∀j,w.frozen? ⟨g,j,none⟩=false)∧∀i,i<Os.length->∃s iv gv,w.cell? ⟨g,i*3,none⟩=some (.string s)∧w.cell? ⟨g,i*3+1,none⟩=some iv∧w.cell? ⟨g,i*3+2,none⟩=some gv∧ImL P w iv∧GlL P w gv:=by
 rcases h with⟨n,c,-,e2⟩|⟨a,n,c,g,cap',R,e1,e2,h1,h2,h3,-,hg,hz⟩
 ·left
  simp only[Value.slice.injEq]at e2;exact e2.2.1
 ·right
  simp only[Value.slice.injEq]at e2;refine⟨g,e2.1,hg,hz,λi hi=>?_⟩;have hv:i<V.length:=by rw[hV.len];exact hi
  have hr:i<R.length:=by rw[h2];exact hi
  obtain⟨c0,c1,c2,hq⟩:=h3 i hi hv hr;obtain⟨b,o,-,-,-,-,hO⟩:=hV.c i hi hv;obtain⟨k1,k2⟩:=hq.sp hO;exact⟨_,_,_,c0,c1,c2,k1,k2⟩
end
theorem MCx.low2{X:Nat->Prop}{w:World}{v:Value}{l:List LIns}(h:MCx X w v l):MCx (λb=>b<w.heap.size) w v l:=by
 obtain⟨B,L,-,h2,h3,h4,h5⟩:=h;refine⟨B,L,h4.lt,h2,h3,h4,λx hx=>?_⟩;obtain⟨B',-,g2,g3⟩:=h5 x hx;exact⟨B',g3.lt,g2,g3⟩
theorem img_open{lo:Nat}{w:World}{Pb n gc:Nat}{gp:Option Addr}{y:Value}{gs:List LGlob}(hR:R2 w Pb (.slice gp n gc) y)(hM:MGAt lo w (.slice gp n gc) gs)(ha:∀g (h:g<gs.length),0<=gs[g].arity∧gs[g].arity<=20):∃G,ImG w.heap.size w Pb gs gp gc G:=by
 obtain⟨p,cap,e,h⟩:=hM;cases e;have hx:∀i,∃q:Int×Option Addr×Nat×Nat,∀hi:i<gs.length,q.1=gs[i].arity∧(∃b o,b<w.heap.size∧gp=some ⟨b,o,none⟩∧w.cell? ⟨b,o+i*2,none⟩=some (.int .i64 q.1)∧w.cell? ⟨b,o+i*2+1,none⟩=some (.slice q.2.1 q.2.2.1 q.2.2.2))∧CdAt w.heap.size w (.slice q.2.1 q.2.2.1 q.2.2.2) gs[i].code:=λi=>by
  by_cases hi:i<gs.length
  ·obtain⟨b,o,cv,-,e,c0,c1,hC⟩:=h i hi;obtain⟨B,L,-,hv,-⟩:=id hC;subst hv;exact⟨(gs[i].arity,some ⟨B,0,none⟩,gs[i].code.length,gs[i].code.length),λ_=>⟨rfl,⟨b,o,block_lt_of_cell c0,e,c0,c1⟩,Or.inr hC.low2⟩⟩
  ·exact⟨(0,none,0,0),λh=>absurd h hi⟩
 obtain⟨G,hG⟩:=Classical.skolem.1 hx;exact⟨G,⟨hR.lt,hR.c0,λi hi=>(hG i hi).2.1⟩,λi hi=>⟨(hG i hi).1,(ha i hi).1,by have:=(ha i hi).2;omega⟩,λi hi=>(hG i hi).2.2⟩
def FedAt(w:World)(v:Value)(l:List (Int×Int)):Prop:=∃p cap,v=.slice p l.length cap∧short l.length∧∀i (h:i<l.length),∃b o,p=some ⟨b,o,none⟩∧w.cell? ⟨b,o+i*2,none⟩=some (.int .i64 l[i].1)∧w.cell? ⟨b,o+i*2+1,none⟩=some (.int .i64 l[i].2)
theorem FedAt.keep{w w':World}{v:Value}{l:List (Int×Int)}(h:FedAt w v l)(hb:Below w.heap.size w w'):FedAt w' v l:=by
 obtain⟨p,cap,e,hs,h⟩:=h;refine⟨p,cap,e,hs,λi hi=>?_⟩;obtain⟨b,o,e2,c0,c1⟩:=h i hi;exact⟨b,o,e2,cell_keep hb c0,cell_keep hb c1⟩
end Go.Proofs.YtahmgjjgikgpoaaGreatDoor
namespace Go.Proofs.YtahmgjjgikgpoaaGreatDoor
open Go.RowKit Go.Sort Go.ChangeShapes Go.WideShapes
theorem one_int2{H:Type}{enc:TypeId×Value->H}{w:World}{spare:Nat->Bool}{held:Bool}{t:TypeId}{fuel:Nat}{cs:List Value}{y:DataW H×List MemPlace}(hu:Tryz.prog.underlying t=some (.int .i64))(h:DataW.trod enc Tryz.prog w 0 spare held fuel t cs=some y):∃n:Int,cs=[.int .i64 n]∧-9223372036854775808<=n∧n<=9223372036854775807:=by
 obtain⟨n,h1,-,h2⟩:=DataW.trod_int hu h;exact⟨n,h1,bounds_i64 h2⟩
theorem ins_of2{H:Type}{enc:TypeId×Value->H}{w:World}{spare:Nat->Bool}{held:Bool}{fuel:Nat}{cs:List Value}{y:DataW H×List MemPlace}(hl:cs.length=3)(h:DataW.trod enc Tryz.prog w 0 spare held fuel 43 cs=some y)(hw:Wt 43 y.1):
 ∃(x:LIns) (av:Value),cs[0]?=some (.int .i64 x.op)∧cs[1]?=some (.int .i64 x.a)∧cs[2]?=some av∧AltsAt w av x.alts∧x.alts.length*16<=140737488351232∧-9223372036854775808<=x.a∧x.a<=9223372036854775807:=by
 obtain⟨y0,y1,y2,n,rfl,-,h0,h1,h2⟩:=Go.Deep.trod_struct3 Tryz.underlying43 h;obtain⟨a,e0⟩:=one_int Tryz.underlying3 h0;obtain⟨b,e1,hb1,hb2⟩:=one_int2 Tryz.underlying3 h1;obtain⟨v,e2,e3⟩:=one_cell (cs:=cs) (i:=2) cells_alts (by omega);have h2':DataW.trod enc Tryz.prog w 0 spare held n 41 ((cs.drop 2).take (Tryz.prog.cellsOf 41))=some y2:=h2;rw[e2]at h2';obtain⟨l,hA,hA2⟩:=alts_of h2' (hw.part Tryz.underlying43 (j:=2) rfl rfl);exact⟨⟨a,b,l⟩,v,one_at cells_int e0,one_at cells_int e1,e3,hA,hA2,hb1,hb2⟩
def RangeC(l:List LIns):Prop:=∀c∈l,-9223372036854775808<=c.a∧c.a<=9223372036854775807
theorem code_of2{H:Type}{enc:TypeId×Value->H}{w:World}{spare:Nat->Bool}{held:Bool}{fuel:Nat}{v:Value}{x:DataW H×List MemPlace}(h:DataW.trod enc Tryz.prog w 0 spare held fuel 44 [v]=some x)(hw:Wt 44 x.1):∃l:List LIns,CodeAt w v l∧(l.length*40<=140737488351232∧∀c∈l,c.alts.length*16<=140737488351232)∧RangeC l:=by
 rcases slice_get Tryz.underlying44 cells_ins (by omega) h hw with rfl|⟨a,len,cap,n,rfl,hs,hx⟩
 ·exact⟨[],⟨none,0,rfl,by simp[short],λi hi=>absurd hi (by simp)⟩,⟨by simp,λc hc=>by cases hc⟩,λc hc=>by cases hc⟩
 ·rw[bytes_ins]at hs;have:Inhabited LIns:=⟨⟨0,0,[]⟩⟩;obtain⟨f,hf⟩:=Go.Deep.choose_lt (α:=LIns) (n:=len) (p:=λi x=>∃b o av,a=⟨b,o,none⟩∧w.cell? ⟨b,o+i*3,none⟩=some (.int .i64 x.op)∧w.cell? ⟨b,o+i*3+1,none⟩=some (.int .i64 x.a)∧w.cell? ⟨b,o+i*3+2,none⟩=some av∧AltsAt w av x.alts∧x.alts.length*16<=140737488351232∧-9223372036854775808<=x.a∧x.a<=9223372036854775807) (λi hi=>by
   obtain⟨b,o,cs,y,rfl,hl,hc,ht,hwt⟩:=hx i hi;obtain⟨x,av,h0,h1,h2,h3⟩:=ins_of2 hl ht hwt;exact⟨x,b,o,av,rfl,(hc 0 (by omega)).trans h0,(hc 1 (by omega)).trans h1,(hc 2 (by omega)).trans h2,h3⟩)
  have hl:((List.range len).map f).length=len:=by simp
  refine⟨(List.range len).map f,⟨some a,cap,by rw[hl],?_,λi hi=>?_⟩,⟨?_,λc hc=>?_⟩,λc hc=>?_⟩
  ·rw[hl];simp only[short];unfold reachBytes at hs;omega
  ·rw[hl]at hi;obtain⟨b,o,av,e,h0,h1,h2,h3,-⟩:=hf i hi;exact⟨b,o,av,by rw[e],by simpa using h0,by simpa using h1,h2,by simpa using h3⟩
  ·rw[hl];unfold reachBytes at hs;omega
  ·simp only[List.mem_map,List.mem_range]at hc;obtain⟨i,hi,rfl⟩:=hc;obtain⟨-,-,-,-,-,-,-,-,h,-⟩:=hf i hi;exact h
  ·simp only[List.mem_map,List.mem_range]at hc;obtain⟨i,hi,rfl⟩:=hc;obtain⟨-,-,-,-,-,-,-,-,-,h⟩:=hf i hi;exact h
theorem glob_of2{H:Type}{enc:TypeId×Value->H}{w:World}{spare:Nat->Bool}{held:Bool}{fuel:Nat}{cs:List Value}{y:DataW H×List MemPlace}(hl:cs.length=4)(h:DataW.trod enc Tryz.prog w 0 spare held fuel 46 cs=some y)(hw:Wt 46 y.1):
 ∃(x:LGlob) (cv:Value),cs[0]?=some (.string x.name)∧cs[1]?=some (.int .i64 x.arity)∧cs[2]?=some (.bool x.exp)∧cs[3]?=some cv∧CodeAt w cv x.code∧x.name.size<=maxLen∧(x.code.length*40<=140737488351232∧∀c∈x.code,c.alts.length*16<=140737488351232)∧RangeC x.code:=by
 obtain⟨y0,y1,y2,y3,n,rfl,-,h0,h1,h2,h3⟩:=Go.Joins.trod_struct4 Tryz.underlying46 h;obtain⟨a,e0,hs⟩:=one_string Tryz.underlying9 h0;obtain⟨b,e1⟩:=one_int Tryz.underlying3 h1;obtain⟨c,e2⟩:=one_bool Tryz.underlying4 h2;obtain⟨v,e3,e4⟩:=one_cell (cs:=cs) (i:=3) cells_code (by omega);have h3':DataW.trod enc Tryz.prog w 0 spare held n 44 ((cs.drop 3).take (Tryz.prog.cellsOf 44))=some y3:=h3;rw[e3]at h3';obtain⟨l,hA,hA2⟩:=code_of2 h3' (hw.part Tryz.underlying46 (j:=3) rfl rfl);exact⟨⟨a,b,c,l⟩,v,one_at cells_string e0,one_at cells_int e1,one_at cells_bool e2,e4,hA,hs,hA2⟩
theorem globs_of2{H:Type}{enc:TypeId×Value->H}{w:World}{spare:Nat->Bool}{held:Bool}{fuel:Nat}{v:Value}{x:DataW H×List MemPlace}(h:DataW.trod enc Tryz.prog w 0 spare held fuel 47 [v]=some x)(hw:Wt 47 x.1):∃l:List LGlob,GlobsAt w v l∧SizedG l∧∀g∈l,RangeC g.code:=by
 rcases slice_get Tryz.underlying47 cells_glob (by omega) h hw with rfl|⟨a,len,cap,n,rfl,hs,hx⟩
 ·exact⟨[],⟨none,0,rfl,by simp[short],λi hi=>absurd hi (by simp)⟩,by simp[SizedG],λg hg=>by cases hg⟩
 ·rw[bytes_glob]at hs;have:Inhabited LGlob:=⟨⟨⟨#[]⟩,0,false,[]⟩⟩;obtain⟨f,hf⟩:=Go.Deep.choose_lt (α:=LGlob) (n:=len) (p:=λi x=>∃b o cv,a=⟨b,o,none⟩∧w.cell? ⟨b,o+i*4,none⟩=some (.string x.name)∧w.cell? ⟨b,o+i*4+1,none⟩=some (.int .i64 x.arity)∧w.cell? ⟨b,o+i*4+2,none⟩=some (.bool x.exp)∧w.cell? ⟨b,o+i*4+3,none⟩=some cv∧CodeAt w cv x.code∧x.name.size<=maxLen∧(x.code.length*40<=140737488351232∧∀c∈x.code,c.alts.length*16<=140737488351232)∧RangeC x.code) (λi hi=>by
   obtain⟨b,o,cs,y,rfl,hl,hc,ht,hwt⟩:=hx i hi;obtain⟨x,cv,h0,h1,h2,h3,h4⟩:=glob_of2 hl ht hwt;exact⟨x,b,o,cv,rfl,(hc 0 (by omega)).trans h0,(hc 1 (by omega)).trans h1,(hc 2 (by omega)).trans h2,(hc 3 (by omega)).trans h3,h4⟩)
  have hl:((List.range len).map f).length=len:=by simp
  refine⟨(List.range len).map f,⟨some a,cap,by rw[hl],?_,λi hi=>?_⟩,⟨?_,λc hc=>?_⟩,λc hc=>?_⟩
  ·rw[hl];simp only[short];unfold reachBytes at hs;omega
  ·rw[hl]at hi;obtain⟨b,o,cv,e,h0,h1,h2,h3,h4,h5,-⟩:=hf i hi;exact⟨b,o,cv,by rw[e],by simpa using h0,by simpa using h1,by simpa using h2,h3,by simpa using h4,by simpa using h5⟩
  ·rw[hl];unfold reachBytes at hs;omega
  ·simp only[List.mem_map,List.mem_range]at hc;obtain⟨i,hi,rfl⟩:=hc;obtain⟨-,-,-,-,-,-,-,-,-,-,h,-⟩:=hf i hi;exact h
  ·simp only[List.mem_map,List.mem_range]at hc;obtain⟨i,hi,rfl⟩:=hc;obtain⟨-,-,-,-,-,-,-,-,-,-,-,h⟩:=hf i hi;exact h
theorem objc_of2{H:Type}{enc:TypeId×Value->H}{w:World}{spare:Nat->Bool}{held:Bool}{fuel:Nat}{cs:List Value}{y:DataW H×List MemPlace}(hl:cs.length=3)(h:DataW.trod enc Tryz.prog w 0 spare held fuel 50 cs=some y)(hw:Wt 50 y.1):
 ∃(O:LObj) (ip:Option Addr) (ic:Nat) (gp:Option Addr) (gc:Nat),cs[0]?=some (.string O.name)∧cs[1]?=some (.slice ip O.imps.length ic)∧cs[2]?=some (.slice gp O.globs.length gc)∧ObjAt w (.agg #[.string O.name,.slice ip O.imps.length ic,.slice gp O.globs.length gc]) O∧SizedO O.imps O.globs∧∀g∈O.globs,RangeC g.code:=by
 obtain⟨y0,y1,y2,n,rfl,-,h0,h1,h2⟩:=Go.Deep.trod_struct3 Tryz.underlying50 h;obtain⟨s,e0,hs⟩:=one_string Tryz.underlying9 h0;obtain⟨v1,e1,f1⟩:=one_cell (cs:=cs) (i:=1) cells_imps (by omega);obtain⟨v2,e2,f2⟩:=one_cell (cs:=cs) (i:=2) cells_globs (by omega);have h1':DataW.trod enc Tryz.prog w 0 spare held n 48 ((cs.drop 1).take (Tryz.prog.cellsOf 48))=some y1:=h1;have h2':DataW.trod enc Tryz.prog w 0 spare held n 47 ((cs.drop 2).take (Tryz.prog.cellsOf 47))=some y2:=h2;rw[e1]at h1';rw[e2]at h2';obtain⟨li,hI,hI2⟩:=imps_of h1' (hw.part Tryz.underlying50 (j:=1) rfl rfl);obtain⟨lg,hG,hG2,hG3⟩:=globs_of2 h2' (hw.part Tryz.underlying50 (j:=2) rfl rfl);obtain⟨ip,ic,rfl,-⟩:=id hI;obtain⟨gp,gc,rfl,-⟩:=id hG;exact⟨⟨s,li,lg⟩,ip,ic,gp,gc,one_at cells_string e0,f1,f2,⟨_,_,rfl,hs,hI,hG⟩,⟨hI2,hG2⟩,hG3⟩
theorem objs_of2{H:Type}{enc:TypeId×Value->H}{w:World}{spare:Nat->Bool}{held:Bool}{fuel:Nat}{v:Value}{x:DataW H×List MemPlace}(h:DataW.trod enc Tryz.prog w 0 spare held fuel 22 [v]=some x)(hw:Wt 22 x.1):∃l:List LObj,ObjsAt w v l∧l.length*64<=140737488351232∧(∀O∈l,SizedO O.imps O.globs)∧A64 l:=by
 rcases slice_get Tryz.underlying22 cells_obj (by omega) h hw with rfl|⟨a,len,cap,n,rfl,hs,hx⟩
 ·exact⟨[],⟨none,0,rfl,by simp[short],λi hi=>absurd hi (by simp)⟩,by simp,λc hc=>(by cases hc),λc hc=>by cases hc⟩
 ·rw[bytes_obj]at hs;have:Inhabited LObj:=⟨⟨⟨#[]⟩,[],[]⟩⟩;obtain⟨f,hf⟩:=Go.Deep.choose_lt (α:=LObj) (n:=len) (p:=λi O=>∃(b o:Nat) (ip:Option Addr) (ic:Nat) (gp:Option Addr) (gc:Nat),a=⟨b,o,none⟩∧w.cell? ⟨b,o+i*3,none⟩=some (.string O.name)∧w.cell? ⟨b,o+i*3+1,none⟩=some (.slice ip O.imps.length ic)∧w.cell? ⟨b,o+i*3+2,none⟩=some (.slice gp O.globs.length gc)∧ObjAt w (.agg #[.string O.name,.slice ip O.imps.length ic,.slice gp O.globs.length gc]) O∧SizedO O.imps O.globs∧∀g∈O.globs,RangeC g.code) (λi hi=>by
   obtain⟨b,o,cs,y,rfl,hl,hc,ht,hwt⟩:=hx i hi;obtain⟨O,ip,ic,gp,gc,h0,h1,h2,h3⟩:=objc_of2 hl ht hwt;exact⟨O,b,o,ip,ic,gp,gc,rfl,(hc 0 (by omega)).trans h0,(hc 1 (by omega)).trans h1,(hc 2 (by omega)).trans h2,h3⟩)
  have hl:((List.range len).map f).length=len:=by simp
  refine⟨(List.range len).map f,⟨some a,cap,by rw[hl],?_,λi hi=>?_⟩,?_,λc hc=>?_,λc hc=>?_⟩
  ·rw[hl];simp only[short];unfold reachBytes at hs;omega
  ·rw[hl]at hi;obtain⟨b,o,ip,ic,gp,gc,e,h0,h1,h2,h3,-⟩:=hf i hi;have e2:((List.range len).map f)[i]'(by rw[hl];exact hi)=f i:=by simp
   rw[e2];exact⟨b,o,ip,ic,gp,gc,by rw[e],h0,h1,h2,h3⟩
  ·rw[hl];unfold reachBytes at hs;omega
  ·simp only[List.mem_map,List.mem_range]at hc;obtain⟨i,hi,rfl⟩:=hc;obtain⟨-,-,-,-,-,-,-,-,-,-,-,h,-⟩:=hf i hi;exact h
  ·simp only[List.mem_map,List.mem_range]at hc;obtain⟨i,hi,rfl⟩:=hc;obtain⟨-,-,-,-,-,-,-,-,-,-,-,-,h⟩:=hf i hi;exact h
theorem cells_fed:Tryz.prog.cellsOf 39=2:=by kernel_rfl
theorem bytes_fed:Tryz.prog.bytesOf 39=16:=by kernel_rfl
theorem fed_of{H:Type}{enc:TypeId×Value->H}{w:World}{spare:Nat->Bool}{held:Bool}{fuel:Nat}{cs:List Value}{y:DataW H×List MemPlace}(h:DataW.trod enc Tryz.prog w 0 spare held fuel 39 cs=some y):∃x:Int×Int,cs[0]?=some (.int .i64 x.1)∧cs[1]?=some (.int .i64 x.2):=by
 obtain⟨y0,y1,n,-,-,h0,h1⟩:=trod_struct2 Tryz.underlying39 h;obtain⟨a,e0⟩:=one_int Tryz.underlying3 h0;obtain⟨b,e1⟩:=one_int Tryz.underlying3 h1;exact⟨⟨a,b⟩,one_at cells_int e0,one_at cells_int e1⟩
theorem feds_of{H:Type}{enc:TypeId×Value->H}{w:World}{spare:Nat->Bool}{held:Bool}{fuel:Nat}{v:Value}{x:DataW H×List MemPlace}(h:DataW.trod enc Tryz.prog w 0 spare held fuel 23 [v]=some x)(hw:Wt 23 x.1):∃l:List (Int×Int),FedAt w v l:=by
 rcases slice_get Tryz.underlying23 cells_fed (by omega) h hw with rfl|⟨a,len,cap,n,rfl,hs,hx⟩
 ·exact⟨[],⟨none,0,rfl,by simp[short],λi hi=>absurd hi (by simp)⟩⟩
 ·rw[bytes_fed]at hs;obtain⟨f,hf⟩:=Go.Deep.choose_lt (α:=Int×Int) (n:=len) (p:=λi x=>∃b o,a=⟨b,o,none⟩∧w.cell? ⟨b,o+i*2,none⟩=some (.int .i64 x.1)∧w.cell? ⟨b,o+i*2+1,none⟩=some (.int .i64 x.2)) (λi hi=>by
   obtain⟨b,o,cs,y,rfl,-,hc,ht,-⟩:=hx i hi;obtain⟨x,h0,h1⟩:=fed_of ht;exact⟨x,b,o,rfl,(hc 0 (by omega)).trans h0,(hc 1 (by omega)).trans h1⟩)
  have hl:((List.range len).map f).length=len:=by simp
  refine⟨(List.range len).map f,⟨some a,cap,by rw[hl],?_,λi hi=>?_⟩⟩
  ·rw[hl];simp only[short];unfold reachBytes at hs;omega
  ·rw[hl]at hi;obtain⟨b,o,e,h0,h1⟩:=hf i hi;exact⟨b,o,by rw[e],by simpa using h0,by simpa using h1⟩
end Go.Proofs.YtahmgjjgikgpoaaGreatDoor
namespace Go.Proofs.YtahmgjjgikgpoaaGreatDoor
open Go.RowKit Go.Sort
def ins8:Array Value:=#[.int .i64 0,.int .i64 7,.slice none 0 0,.int .i64 5,.int .i64 0,.slice none 0 0,.int .i64 19,.int .i64 0,.slice none 0 0]
theorem obj8_at{w:World}{b0 b1:Nat}(hc:∀i,i<9->w.cell? ⟨b0,i,none⟩=ins8[i]?)(g0:w.cell? ⟨b1,0,none⟩=some (.string tMain))(g1:w.cell? ⟨b1,1,none⟩=some (.int .i64 0))(g2:w.cell? ⟨b1,2,none⟩=some (.bool true))(g3:w.cell? ⟨b1,3,none⟩=some (.slice (some ⟨b0,0,none⟩) 3 3)):
 ObjAt w (.agg #[.string ⟨#[109]⟩,.slice none 0 0,.slice (some ⟨b1,0,none⟩) 1 1]) O7:=by
 refine⟨_,_,rfl,by decide,⟨none,0,rfl,by simp[short,O7],λi hi=>absurd hi (by simp[O7])⟩,⟨some ⟨b1,0,none⟩,1,rfl,by simp[short,O7],λi hi=>?_⟩⟩;obtain rfl:i=0:=by simp[O7]at hi;omega
 refine⟨b1,0,.slice (some ⟨b0,0,none⟩) 3 3,rfl,g0,g1,g2,g3,⟨some ⟨b0,0,none⟩,3,rfl,by simp[short,O7,G7,code7],λi hi=>?_⟩,by show tMain.size<=maxLen;decide⟩;rcases(show i=0∨i=1∨i=2 by simp[O7,G7,code7]at hi;omega) with rfl|rfl|rfl
 ·exact⟨b0,0,.slice none 0 0,rfl,hc 0 (by omega),hc 1 (by omega),hc 2 (by omega),⟨none,0,rfl,by simp[short,O7,G7,code7],λi hi=>absurd hi (by simp[O7,G7,code7])⟩⟩
 ·exact⟨b0,0,.slice none 0 0,rfl,hc 3 (by omega),hc 4 (by omega),hc 5 (by omega),⟨none,0,rfl,by simp[short,O7,G7,code7],λi hi=>absurd hi (by simp[O7,G7,code7])⟩⟩
 ·exact⟨b0,0,.slice none 0 0,rfl,hc 6 (by omega),hc 7 (by omega),hc 8 (by omega),⟨none,0,rfl,by simp[short,O7,G7,code7],λi hi=>absurd hi (by simp[O7,G7,code7])⟩⟩
theorem out8:aOut [G7] 0 7 1=.agg #[.int .i64 0,.string ⟨#[55]⟩,.int .i64 7,.int .i64 1]:=by kernel_rfl
theorem runs_any8(w:World)(adr:Nat->Addr)(hT:TabAt w)(hS:SentAt w adr)(htab:Lib.TabBelow Tryz.prog w.heap.size w "internal/strconv.uint64pow10" .u64 Lib.pow10Tab):
 Calls Tryz.prog 4 #[] w λe w'=>e=.returned (.bool true)∧Below w.heap.size w w':=by
 obtain⟨W3,hW3⟩:∃W3,((w.alloc (.cells #[.int .i64 0,.int .i64 7,.slice none 0 0,.int .i64 5,.int .i64 0,.slice none 0 0,.int .i64 19,.int .i64 0,.slice none 0 0] 43)).alloc (.cells #[.string ⟨#[109,97,105,110]⟩,.int .i64 0,.bool true,.slice (some ⟨w.heap.size,0,none⟩) 3 3] 46)).alloc (.cells #[.string ⟨#[109]⟩,.slice none 0 0,.slice (some ⟨w.heap.size+1,0,none⟩) 1 1] 50)=W3:=⟨_,rfl⟩;have hb3:Below w.heap.size w W3:=by
  rw[<-hW3];exact(((Below.refl _ _).alloc (Nat.le_refl _) _).alloc (by simp) _).alloc (by simp;omega) _
 have hz3:W3.heap.size=w.heap.size+3:=by rw[<-hW3];simp
 have hO:ObjAt W3 (.agg #[.string ⟨#[109]⟩,.slice none 0 0,.slice (some ⟨w.heap.size+1,0,none⟩) 1 1]) O7:=by
  rw[<-hW3];have e1:(w.alloc (.cells #[.int .i64 0,.int .i64 7,.slice none 0 0,.int .i64 5,.int .i64 0,.slice none 0 0,.int .i64 19,.int .i64 0,.slice none 0 0] 43)).heap.size=w.heap.size+1:=by simp
  have hg:∀i v,(#[Value.string ⟨#[109,97,105,110]⟩,.int .i64 0,.bool true,.slice (some ⟨w.heap.size,0,none⟩) 3 3])[i]?=some v->(((w.alloc (.cells #[.int .i64 0,.int .i64 7,.slice none 0 0,.int .i64 5,.int .i64 0,.slice none 0 0,.int .i64 19,.int .i64 0,.slice none 0 0] 43)).alloc (.cells #[.string ⟨#[109,97,105,110]⟩,.int .i64 0,.bool true,.slice (some ⟨w.heap.size,0,none⟩) 3 3] 46)).alloc (.cells #[.string ⟨#[109]⟩,.slice none 0 0,.slice (some ⟨w.heap.size+1,0,none⟩) 1 1] 50)).cell? ⟨w.heap.size+1,i,none⟩=some v:=λi v hv=>by
   refine alloc_old _ _ _ _ _ ?_;have:=alloc_cell (w.alloc (.cells #[.int .i64 0,.int .i64 7,.slice none 0 0,.int .i64 5,.int .i64 0,.slice none 0 0,.int .i64 19,.int .i64 0,.slice none 0 0] 43)) #[Value.string ⟨#[109,97,105,110]⟩,.int .i64 0,.bool true,.slice (some ⟨w.heap.size,0,none⟩) 3 3] 46 i v hv;rw[e1]at this;exact this
  refine obj8_at (b0:=w.heap.size) (λi hi=>?_) (hg 0 _ rfl) (hg 1 _ rfl) (hg 2 _ rfl) (hg 3 _ rfl);have hv:ins8[i]?=some ins8[i]:=Array.getElem?_eq_getElem hi;rw[hv];exact alloc_old _ _ _ _ _ (alloc_old _ _ _ _ _ (alloc_cell w ins8 _ i _ hv))
 have HC3:Hid (C3 W3 (w.heap.size+1+1) (.string ⟨#[109]⟩) (.slice none 0 0) (.slice (some ⟨w.heap.size+1,0,none⟩) 1 1)):=by
  rw[<-hW3];have:=C3.new ((w.alloc (.cells #[.int .i64 0,.int .i64 7,.slice none 0 0,.int .i64 5,.int .i64 0,.slice none 0 0,.int .i64 19,.int .i64 0,.slice none 0 0] 43)).alloc (.cells #[.string ⟨#[109,97,105,110]⟩,.int .i64 0,.bool true,.slice (some ⟨w.heap.size,0,none⟩) 3 3] 46)) (.string ⟨#[109]⟩) (.slice none 0 0) (.slice (some ⟨w.heap.size+1,0,none⟩) 1 1) 50;simp only[World.size_alloc]at this;exact this
 have HSD:Hid (Calls Tryz.prog 12 #[.agg #[.string ⟨#[109]⟩,.slice none 0 0,.slice (some ⟨w.heap.size+1,0,none⟩) 1 1]] W3 λe w1=>e=.returned (.tuple #[.int .i64 0,.agg #[.int .i64 0,.int .i64 0]])∧Hid (Below W3.heap.size W3 w1)):=(tarnSound_any O7 _ W3 adr hO (hT.keep hb3) (hS.keep hb3)).mono λe w1 ⟨he,hb⟩=>⟨by rw[he,o7_doc];rfl,hb⟩;have HLK:Hid (∀w1,Below W3.heap.size W3 w1->Calls Tryz.prog 6 #[.slice (some ⟨w1.heap.size+1,0,none⟩) 1 1,.string ⟨#[109,97,105,110]⟩] ((w1.alloc (.cells #[.int .i64 0,.int .i64 0] 52)).alloc (.cells #[.string ⟨#[109]⟩,.slice none 0 0,.slice (some ⟨w.heap.size+1,0,none⟩) 1 1] 50)) λe w2=>∃I:Nat,e=.returned (.tuple #[.pointer (some ⟨I,0,none⟩),.int .i64 0,.int .i64 0])∧Hid (Calls Tryz.prog 10 #[.pointer (some ⟨I,0,none⟩),.int .i64 7,.int .i64 1] w2 λe w3=>e=.returned (.agg #[.int .i64 0,.string ⟨#[55]⟩,.int .i64 7,.int .i64 1])∧Hid (Below w.heap.size w w3))):=λw1 hb1=>by
  have hb5:Below w1.heap.size w1 ((w1.alloc (.cells #[.int .i64 0,.int .i64 0] 52)).alloc (.cells #[.string ⟨#[109]⟩,.slice none 0 0,.slice (some ⟨w.heap.size+1,0,none⟩) 1 1] 50)):=((Below.refl _ _).alloc (Nat.le_refl _) _).alloc (by simp) _;have hb6:Below W3.heap.size W3 ((w1.alloc (.cells #[.int .i64 0,.int .i64 0] 52)).alloc (.cells #[.string ⟨#[109]⟩,.slice none 0 0,.slice (some ⟨w.heap.size+1,0,none⟩) 1 1] 50)):=hb1.trans (hb5.mono hb1.size);have hb7:=hb3.trans (hb6.mono hb3.size);have hN:=C3.new (w1.alloc (.cells #[.int .i64 0,.int .i64 0] 52)) (.string ⟨#[109]⟩) (.slice none 0 0) (.slice (some ⟨w.heap.size+1,0,none⟩) 1 1) 50;simp only[World.size_alloc]at hN;have hOs:ObjsAt ((w1.alloc (.cells #[.int .i64 0,.int .i64 0] 52)).alloc (.cells #[.string ⟨#[109]⟩,.slice none 0 0,.slice (some ⟨w.heap.size+1,0,none⟩) 1 1] 50)) (.slice (some ⟨w1.heap.size+1,0,none⟩) 1 1) [O7]:=⟨_,_,rfl,by simp[short],λi hi=>by
   obtain rfl:i=0:=by simpa using hi
   exact⟨w1.heap.size+1,0,none,0,some ⟨w.heap.size+1,0,none⟩,1,rfl,hN.c0,hN.c1,hN.c2,hO.keep hb6⟩⟩
  refine(tarnLink_any [O7] _ tMain _ adr hOs (λO hO=>by obtain rfl:=List.mem_singleton.1 hO;simp[O7]) (by decide) (hT.keep hb7) (hS.keep hb7)).mono ?_;rintro e w2 ⟨hb2,h2⟩;rw[o7_lnk]at h2;obtain⟨I,p,n,c,he,-,hR,hG⟩:=h2;have hok:=img_ok o7_lnk (λO hO g hg i hi=>by
   obtain rfl:=List.mem_singleton.1 hO;obtain rfl:=List.mem_singleton.1 hg;simp only[G7,code7,List.mem_cons,List.not_mem_nil,or_false]at hi;rcases hi with rfl|rfl|rfl<;>simp)
  rw[o7_img]at hG hok;rw[o7_ent]at hR hok;obtain⟨⟨D,hD⟩,hm⟩:=hok;obtain⟨q,cap,e2,-⟩:=id hG;cases e2;obtain⟨G,hIm⟩:=img_open hR hG hD.ar;have hb8:=hb7.trans (hb2.mono hb7.size);refine⟨I,he,(image_any 7 1 hD hIm hm hR.c1 λX hX=>htab X (hb8.trans (hX.mono hb8.size))).mono λe w3 ⟨he,hb⟩=>⟨by rw[he];exact congrArg _ out8,hb8.trans (hb.mono hb8.size)⟩⟩
 obtain⟨d0,d1,d2,-⟩:=id HC3.out;clear hT hS hO hb3;go_enter Tryz.func4,Tryz.ntmps4;go_wp2_with (first
  |(go_at_call 12;refine HSD.out.mono ?_;rintro e w1 ⟨rfl,HB1⟩;have HLK1:=hid (HLK.out w1 HB1.out);have hC:=HC3.out.keep HB1.out;obtain⟨c0,c1,c2,-⟩:=hC;have c0a:=λo=>alloc_old w1 o _ _ _ c0;have c1a:=λo=>alloc_old w1 o _ _ _ c1;have c2a:=λo=>alloc_old w1 o _ _ _ c2;clear c0 c1 c2)
  |(go_at_call 6;refine HLK1.out.mono ?_;rintro e w2 ⟨I,rfl,HIM⟩)
  |(go_at_call 10;refine HIM.out.mono ?_;rintro e w3 ⟨rfl,HB3⟩))
 go_ret;exact⟨rfl,HB3.out⟩
end Go.Proofs.YtahmgjjgikgpoaaGreatDoor
