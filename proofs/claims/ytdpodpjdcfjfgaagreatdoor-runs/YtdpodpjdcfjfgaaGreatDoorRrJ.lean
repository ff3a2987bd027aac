import Derived.Test.YtdpodpjdcfjfgaaGreatDoorShIJ
import Derived.Lib.AppendIntMem
import Derived.Lib.ItoaLen
import Derived.RangeFuncNested
import Derived.RangeFuncBound
import Derived.RangeFuncCalls
import Derived.RangeFuncLeaves
import Derived.Shelf.RegionOpen
import Derived.Shelf.Abstract
import Derived.OwnWalkIn
import Derived.TacticsInMore
import Derived.LoopNIn
import Derived.LoopIn
set_option maxRecDepth 100000
set_option maxHeartbeats 4000000
namespace Go.Proofs.YtdpodpjdcfjfgaaGreatDoor
open Go.RowKit Go.Sort
def TlS(r:TRes)(m:MSt):Prop:=match r.2 with
 |some t1=>SimT t1 r.1 m
 |none=>m.kind=r.1.kind∧m.su=r.1.steps∧m.mu=r.1.used
def TlR(lo M Pb:Nat)(B:List Nat)(w:World)(r:TRes)(e:Ending)(w':World):Prop:=∃m',TlS r m'∧MRes lo M Pb B w m' (.bool r.2.isSome) e w'
structure TlG (lo Pb:Nat) (gs:List LGlob) (D:Nat->Nat->Int) (gp:Option Addr) (gc:Nat) (G:Nat->Int×Option Addr×Nat×Nat) (w:World):Prop where
 g:ImgOk gs D
 im:ImG lo w Pb gs gp gc G
 tab:Lib.TabBelow Tryz.prog lo w "internal/strconv.uint64pow10" .u64 Lib.pow10Tab
section
variable {lo:Nat} {w:World} {M Pb:Nat} {m:MSt} {B:List Nat} {gs:List LGlob} {D:Nat->Nat->Int} {t:List UInt8} {a b:ASt} {gp:Option Addr} {gc:Nat} {G:Nat->Int×Option Addr×Nat×Nat}
theorem TlG.low{w':World}(h:TlG lo Pb gs D gp gc G w)(hb:Below lo w w'):TlG lo Pb gs D gp gc G w':=⟨h.g,h.im.low hb,h.tab.on hb⟩
theorem TlR.of{B1:List Nat}{w1 w':World}{r:TRes}{e:Ending}(h1:AG B w w1)(h2:∀b∈B1,b∈B∨w.heap.size<=b)(h:TlR lo M Pb B1 w1 r e w'):TlR lo M Pb B w r e w':=by
 obtain⟨m',hs,hr⟩:=h;have he:=hr.1;exact⟨m',hs,hr.of h1 h2 he⟩
theorem TlR.ret{w':World}{r:TRes}{e:Ending}(h:TlR lo M Pb B w r e w'):e=.returned (.bool r.2.isSome):=by
 obtain⟨m',-,he,-⟩:=h;exact he
theorem say_both(h:MM lo w M Pb m B)(hs:SimT t a m)(hl:a.ended=false)(s:ByteArray)(hz:s.size<=1000000)(ht:t.length<=2000):
 Calls Tryz.prog 168 #[.pointer (some ⟨M,0,none⟩),.string s] w λe w'=>TlR lo M Pb B w (tSay s.data.toList a t λt'=>(a,some t')) e w':=by
 refine(say_any s h hz (by rw[hs.text];exact ht)).mono λe w' hr=>?_;have e1:s.data.toList.length=s.size:=by rw[Array.length_toList];rfl
 unfold sayS sayB at hr;rw[hs.text]at hr;unfold tSay;rw[e1];by_cases hc:t.length+s.size<=2000
 ·rw[if_pos hc];rw[decide_eq_true hc,if_pos rfl]at hr;exact⟨{m with text:=t++s.data.toList},⟨hs.cells,hs.su,hs.sm,hs.mu,hs.mm,hs.kind,rfl⟩,hr⟩
 ·rw[if_neg hc];rw[decide_eq_false hc,if_neg (by simp)]at hr;have e8:rEnd 8 a={a with ended:=true,kind:=8}:=by unfold rEnd;rw[hl];rfl
  rw[e8];exact⟨stopS 8 m,⟨rfl,hs.su,hs.mu⟩,hr⟩
theorem tTodo_len:∀(n:Nat) {L:List TD} {a a1:ASt} {t t1:List UInt8},tTodo gs n L a t=(a1,some t1)->t.length<=t1.length∧(t.length<=2000->t1.length<=2000)
 |n,[],a,a1,t,t1,h=>by
  have:(a,some t)=(a1,some t1):=by cases n<;>exact h
  cases this;exact⟨Nat.le_refl _,id⟩
 |0,_::_,_,_,_,_,h=>by cases h
 |n+1,(s,c)::L,a,a1,t,t1,h=>by
  have hsay:∀(s:List UInt8) (b:ASt) (L':List TD),tSay s b t (λt'=>tTodo gs n L' b t')=(a1,some t1)->t.length<=t1.length∧(t.length<=2000->t1.length<=2000):=λs b L' h=>by
   unfold tSay at h;split at h
   ·rename_i hl
    have:=tTodo_len n h;rw[List.length_append]at this;omega
   ·cases h
  rw[tTodo]at h;split at h
  ·split at h
   ·exact hsay _ _ _ h
   ·cases h
  ·exact hsay _ _ _ h
theorem tEnd_len{L:List TD}{a a1:ASt}{t t1:List UInt8}(h:tEnd gs L a t=(a1,some t1)):t.length<=t1.length∧(t.length<=2000->t1.length<=2000):=tTodo_len _ h
theorem tell_hd(hG:ImgOk gs D)(hw:WfB gs a){c:Int}(hc:0<=c∧c<(a.cells.length:Int)):tEnd gs [([],c)] a t=match tVal gs c a with
 |(a1,some x)=>tSay (tPiece x) a1 t λt'=>tEnd gs (tMore x) a1 t'
 |(a1,none)=>(a1,none):=by
 rw[tEnd_cell hG hw (λp hp=>by rw[List.mem_singleton.1 hp];exact hc.2) hc.1];rcases tVal gs c a with⟨a1,_|x⟩
 ·rfl
 ·simp only[List.append_nil]
def RecC(lo M Pb:Nat)(gs:List LGlob)(D:Nat->Nat->Int)(gp:Option Addr)(gc:Nat)(G:Nat->Int×Option Addr×Nat×Nat)(n:Nat):Prop:=∀(w:World) (m:MSt) (B:List Nat) (t:List UInt8) (a:ASt) (x:MCl) (p:Option Addr) (k c:Nat),2000<=t.length+n->t.length<=2000->TlG lo Pb gs D gp gc G w->MM lo w M Pb m B->SimT t a m->WfB gs a->CellOk gs.length a.cells.length x->x.kind=3->FldX (λb=>lo<=b∧b∉B) w (.slice p k c) x.fields->
 Calls Tryz.prog 169 #[.pointer (some ⟨M,0,none⟩),.agg #[.int .u8 3,.int .i64 x.n,.int .i32 x.left,.int .i32 x.right,.slice p k c]] w λe w'=>TlR lo M Pb B w (tSay (tPiece x) a t λt'=>tEnd gs (tMore x) a t') e w'
def TelC(lo M Pb:Nat)(gs:List LGlob)(D:Nat->Nat->Int)(gp:Option Addr)(gc:Nat)(G:Nat->Int×Option Addr×Nat×Nat)(n:Nat):Prop:=∀(w:World) (m:MSt) (B:List Nat) (t:List UInt8) (a:ASt) (c:Int),2000<=t.length+n->t.length<=2000->TlG lo Pb gs D gp gc G w->MM lo w M Pb m B->SimT t a m->WfB gs a->0<=c∧c<(a.cells.length:Int)->
 Calls Tryz.prog 113 #[.pointer (some ⟨M,0,none⟩),.int .i32 c] w λe w'=>TlR lo M Pb B w (tEnd gs [([],c)] a t) e w'
theorem SimR.ended{r:AR}(h:SimR gs t r m)(he:r.1.ended=true)(hn:r.2=none):SimE t r.1 m:=by
 obtain⟨x,o⟩:=r;simp only at he hn;subst hn;unfold SimR at h;simp only[he]at h;exact h
theorem SimR.val{x:ASt}{v:Int}(h:SimR gs t (x,some v) m):SimV t v x m:=h
theorem MM.cellOf(h:MM lo w M Pb m B){r:Nat}(hr:r<m.cells.length):∃(g n c:Nat) (fp:Option Addr) (fn fc:Nat),r<n∧w.cell? ⟨M,1,none⟩=some (.slice (some ⟨g,0,none⟩) n c)∧(w.cell? ⟨g,r*5,none⟩=some (.int .u8 m.cells[r].kind)∧w.cell? ⟨g,r*5+1,none⟩=some (.int .i64 m.cells[r].n)∧w.cell? ⟨g,r*5+2,none⟩=some (.int .i32 m.cells[r].left)∧w.cell? ⟨g,r*5+3,none⟩=some (.int .i32 m.cells[r].right)∧w.cell? ⟨g,r*5+4,none⟩=some (.slice fp fn fc))∧FldX (λb=>lo<=b∧b∉B) w (.slice fp fn fc) m.cells[r].fields:=by
 obtain⟨cs,ds,cv,sv,kv,dv,tv,h,hBe⟩:=h;obtain⟨cg,cc,fp,fn,fc,hcv,r0,r1,r2,r3,r4,-⟩:=h.cellAt (r:=r) hr;have hfx:=h.fldAt hr hcv r4;have h1:=h.m.at 1 rfl;rw[hBe];exact⟨cg,m.cells.length,cc,fp,fn,fc,hr,by rw[h1,hcv],⟨r0,r1,r2,r3,r4⟩,hfx⟩
theorem tell_any{n:Nat}(hRec:RecC lo M Pb gs D gp gc G n):TelC lo M Pb gs D gp gc G n:=by
 intro w m B t a c hn ht hg h hs hw hc;have hR:=tell_hd (t:=t) hg.g hw hc;obtain⟨R,hRe⟩:∃R,tEnd gs [([],c)] a t=R:=⟨_,rfl⟩;rw[hRe]at hR ⊢;have hlow:=h.lows;have HEV:=evaluate_both hg.g hg.im h hs hw hc;obtain⟨-,-,hE⟩:=aWork_end hg.g hw hc;have hRes:=(aWork_end hg.g hw hc).2.1;rcases tVal_ok hg.g hw hc with⟨x,v,ew,hsb,hv0,hv1,hx,etv,hW1,hcl,hmu,hck⟩|⟨etv,hsb,hen⟩
 ·rw[etv]at hR;simp only at hR;obtain⟨r,rfl⟩:∃r:Nat,v=(r:Int):=⟨v.toNat,by omega⟩;generalize (tVal gs c a).1=a2 at*;have ea:(aWork gs c a).1={a2 with steps:=a2.steps-1}:=by rw[ew]
  have eo:(aWork gs c a).2=some (r:Int):=by rw[ew]
  have hr2:r<a2.cells.length:=by rw[ea]at hv1;simp only at hv1;omega
  have HE:Hid (Calls Tryz.prog 166 #[.pointer (some ⟨M,0,none⟩),.int .i32 c] w λe w1=>e=.returned (.tuple #[.int .i32 (r:Int),.bool true])∧Hid (Calls Tryz.prog 167 #[.pointer (some ⟨M,0,none⟩)] w1 λe w2=>e=.returned (.bool true)∧∃m2 B2,Hid (SimT t a2 m2∧MM lo w2 M Pb m2 B2∧AG B w w2∧(∀b∈B2,b∈B∨w.heap.size<=b)))):=by
   refine HEV.mono λe w1 hr=>?_;obtain⟨m1,hs1,h0,hr1⟩:=hr;rw[ew]at hs1;have hv:=hs1.val;obtain⟨rfl,hA1,B1,hM1,hB1⟩:=hr1;refine⟨by unfold evV;rw[if_neg (by rw[hv.state];decide),hv.stack];rfl,?_⟩;have hmt:Mtr m1:=by
    have h1:=hW1.steps;have h2:0<=(aWork gs c a).1.steps:=Int.le_trans hw.steps.1 hRes.1.2.2;rw[ea]at h2;simp only at h2;exact⟨by rw[hv.su,hv.sm];simp only;omega,by rw[hv.sm];exact hW1.fuel,by rw[hv.mu,hv.mm];exact hW1.used,by rw[hv.mm];exact hW1.spare⟩
   have hsb1:stepB m1=true:=by
    have h1:=hW1.steps;unfold stepB;rw[hv.su,hv.sm];simp only[decide_eq_true_eq];omega
   refine(step_any hM1 hmt).mono λe w2 hr2=>?_;rw[hsb1,stepS_ok hsb1]at hr2;have he:=hr2.1;obtain⟨-,hA2,B2,hM2,hB2⟩:=hr2;refine⟨he,{m1 with su:=m1.su+1},B2,⟨hv.cells,?_,hv.sm,hv.mu,hv.mm,hv.kind,hv.text⟩,hM2,hA1.trans hA2 hB1,λb hb=>(hB2 b hb).elim (hB1 b) λh1=>Or.inr (Nat.le_trans hA1.size h1)⟩;show m1.su+1=a2.steps;rw[hv.su];simp
  have HTW:Hid (∀w2 m2 B2,SimT t a2 m2->MM lo w2 M Pb m2 B2->AG B w w2->(∀b∈B2,b∈B∨w.heap.size<=b)->∃(g n c:Nat) (fp:Option Addr) (fn fc:Nat),(r:Int)<(n:Int)∧w2.cell? ⟨M,1,none⟩=some (.slice (some ⟨g,0,none⟩) n c)∧(w2.cell? ⟨g,r*5,none⟩=some (.int .u8 x.kind)∧w2.cell? ⟨g,r*5+1,none⟩=some (.int .i64 x.n)∧w2.cell? ⟨g,r*5+2,none⟩=some (.int .i32 x.left)∧w2.cell? ⟨g,r*5+3,none⟩=some (.int .i32 x.right)∧w2.cell? ⟨g,r*5+4,none⟩=some (.slice fp fn fc))∧
   Hid (x.kind=1->∀X,Below w2.heap.size w2 X->Calls Tryz.prog 41 #[.int .i64 x.n] X λe w3=>e=.returned (.string ⟨(Lib.itoa x.n).toArray⟩)∧Hid (Calls Tryz.prog 168 #[.pointer (some ⟨M,0,none⟩),.string ⟨(Lib.itoa x.n).toArray⟩] w3 λe w4=>e=.returned (.bool R.2.isSome)∧Hid (TlR lo M Pb B w R (.returned (.bool R.2.isSome)) w4)))∧
   Hid (x.kind=3->∀X,Below w2.heap.size w2 X->Calls Tryz.prog 169 #[.pointer (some ⟨M,0,none⟩),.agg #[.int .u8 3,.int .i64 x.n,.int .i32 x.left,.int .i32 x.right,.slice fp fn fc]] X λe w4=>e=.returned (.bool R.2.isSome)∧Hid (TlR lo M Pb B w R (.returned (.bool R.2.isSome)) w4))∧
   Hid (x.kind≠1->x.kind≠3->∀X,Below w2.heap.size w2 X->Calls Tryz.prog 168 #[.pointer (some ⟨M,0,none⟩),.string ⟨#[102,117,110]⟩] X λe w4=>e=.returned (.bool R.2.isSome)∧Hid (TlR lo M Pb B w R (.returned (.bool R.2.isSome)) w4))):=by
   intro w2 m2 B2 hs2 hM2 hA2 hB2;have hrm:r<m2.cells.length:=by rw[hs2.cells];exact hr2
   have hxm:m2.cells[r]=x:=by
    rw[hx];unfold cAt;rw[ea,Int.toNat_natCast];simp only[hs2.cells];rw[List.getElem?_eq_getElem hr2];rfl
   obtain⟨g,n',c',fp,fn,fc,hrn,k1,hcs,hfx⟩:=hM2.cellOf hrm;rw[hxm]at hcs hfx;have hb2:Below lo w w2:=hA2.low hlow.2 hlow.1;have hfin:∀{X:World} {e:Ending} {w4:World},Below w2.heap.size w2 X->TlR lo M Pb B2 X R e w4->e=.returned (.bool R.2.isSome)∧Hid (TlR lo M Pb B w R (.returned (.bool R.2.isSome)) w4):=λhX hr=>by
    have he:=hr.ret;subst he;exact⟨rfl,hr.of (hA2.then hX) hB2⟩
   have hdone:∀b' t',tEnd gs [] b' t'=(b',some t'):=λb' t'=>tEnd_nil b' t';have hlz:=hM2.lows.1;refine⟨g,n',c',fp,fn,fc,by omega,k1,hcs,λhk X hX=>?_,λhk X hX=>?_,λhk1 hk3 X hX=>?_⟩
   ·have hxn:=hck.n;have hil:=Lib.itoa_length_le x.n hxn.1 hxn.2;refine(itoa_any x.n hxn.1 hxn.2 X ((hg.low (hb2.trans (hX.mono hlz))).tab.here)).mono λe w3 hr=>?_;obtain⟨rfl,k,os,hw3⟩:=hr;have hX3:Below w2.heap.size w2 w3:=by rw[hw3];exact hX.trans (Lib.below_grow _ _ hX.size k os)
    refine⟨rfl,(say_both (hM2.keep hX3) hs2 hW1.live ⟨(Lib.itoa x.n).toArray⟩ (by show(Lib.itoa x.n).toArray.size<=_;rw[List.size_toArray];omega) ht).mono λe w4 hr=>hfin hX3 ?_⟩;have hpi:tPiece x=Lib.itoa x.n:=by unfold tPiece;rw[if_pos hk]
    have hmo:tMore x=[]:=by unfold tMore;rw[if_neg (by omega)]
    rw[hR,hpi,hmo];simp only[hdone];exact hr
   ·have h3:=hRec X m2 B2 t a2 x fp fn fc hn ht (hg.low (hb2.trans (hX.mono hlz))) (hM2.keep hX) hs2 hW1 hck hk (hfx.fr λb h1 h2=>⟨h1,hX.block b h2⟩);refine h3.mono λe w4 hr=>hfin hX ?_;rw[hR];exact hr
   ·refine(say_both (hM2.keep hX) hs2 hW1.live ⟨#[102,117,110]⟩ (by show(3:Nat)<=_;omega) ht).mono λe w4 hr=>hfin hX ?_;have hpi:tPiece x=[102,117,110]:=by unfold tPiece;rw[if_neg hk1,if_neg hk3]
    have hmo:tMore x=[]:=by unfold tMore;rw[if_neg hk3]
    rw[hR,hpi,hmo];simp only[hdone];exact hr
  clear h hs hw hg hlow HEV hE hRes ew hsb hv0 hv1 hx etv hW1 hcl hmu hck hR hRe ea eo hr2 hc hn ht hRec;obtain⟨rb,hrb⟩:∃rb,R.2.isSome=rb:=⟨_,rfl⟩;rw[hrb]at HTW;obtain⟨xk,xn,xl,xr,xf⟩:=x;simp only at HTW;go_enter Tryz.func113,Tryz.ntmps113;go_upto_region 4 with(first
   |(go_at_call 166;refine HE.out.mono ?_;rintro e w1 ⟨rfl,HS⟩;clear HE)
   |(go_at_call 167;refine HS.out.mono ?_;rintro e w2 ⟨rfl,m2,B2,HM⟩;clear HS))
  obtain⟨g,n',c',fp,fn,fc,hrn,k1,⟨c0,c1,c2,c3,c4⟩,HA,HB,HC⟩:=HTW.out w2 m2 B2 HM.out.1 HM.out.2.1 HM.out.2.2.1 HM.out.2.2.2;clear HM HTW;go_cut [7] (λv7 wx=>∃b7:Nat,v7=.pointer (some ⟨b7,0,none⟩)∧(wx.cell? ⟨b7,0,none⟩=some (.int .u8 xk)∧wx.cell? ⟨b7,1,none⟩=some (.int .i64 xn)∧wx.cell? ⟨b7,2,none⟩=some (.int .i32 xl)∧wx.cell? ⟨b7,3,none⟩=some (.int .i32 xr)∧wx.cell? ⟨b7,4,none⟩=some (.slice fp fn fc))∧Hid (Below w2.heap.size w2 wx))
  case first=>
   have hN:=FBL.new5 w2 (.int .u8 xk) (.int .i64 xn) (.int .i32 xl) (.int .i32 xr) (.slice fp fn fc) 338;have HN:=hid hN;clear hN;go_wp2;go_meet
   exact⟨_,rfl,⟨HN.out.at 0 rfl,HN.out.at 1 rfl,HN.out.at 2 rfl,HN.out.at 3 rfl,HN.out.at 4 rfl⟩,(Below.refl _ _).alloc (Nat.le_refl _) _⟩
  case rest=>
   clear c0 c1 c2 c3 c4 k1 hrn;rename World=>wx
   obtain⟨b7,rfl,⟨c0,c1,c2,c3,c4⟩,HBX⟩:=hcut;by_cases h1:xk=1
   ·subst h1;have HI:=hid (HA.out rfl wx HBX.out);clear HA HB HC HBX;go_wp2_with (first
     |(go_at_call 41;refine HI.out.mono ?_;rintro e w3 ⟨rfl,HS⟩;clear HI)
     |(go_at_call 168;refine HS.out.mono ?_;rintro e w4 ⟨rfl,HRR⟩;clear HS))
    go_ret;exact HRR.out
   ·by_cases h3:xk=3
    ·subst h3;have HI:=hid (HB.out rfl wx HBX.out);clear HA HB HC HBX;go_wp2_with (first
      |(go_at_call 169;refine HI.out.mono ?_;rintro e w4 ⟨rfl,HRR⟩;clear HI))
     go_ret;exact HRR.out
    ·have HI:=hid (HC.out h1 h3 wx HBX.out);clear HA HB HC HBX;go_wp2_with (first
      |(go_at_call 168;refine HI.out.mono ?_;rintro e w4 ⟨rfl,HRR⟩;clear HI))
     go_ret;exact HRR.out
 ·rw[etv]at hR;simp only at hR;subst hR;have hns:(rStepS (aWork gs c a).1,(none:Option (List UInt8))).2.isSome=false:=rfl;have hfin:∀{e:Ending} {w':World} {m':MSt},MRes lo M Pb B w m' (.bool false) e w'->(m'.kind=(rStepS (aWork gs c a).1).kind∧m'.su=(rStepS (aWork gs c a).1).steps∧m'.mu=(rStepS (aWork gs c a).1).used)->TlR lo M Pb B w (rStepS (aWork gs c a).1,none) e w':=λhr hk=>⟨_,hk,hr⟩;cases hae:(aWork gs c a).1.ended with
  |true=>
   have ho:(aWork gs c a).2=none:=by
    cases hx:(aWork gs c a).2 with
    |none=>rfl
    |some v=>
     have h2:=hRes.2;rw[hx]at h2;have:=h2.1.live;rw[hae]at this;cases this
   have est:rStepS (aWork gs c a).1=(aWork gs c a).1:=by
    unfold rStepS rEnd;rw[hae];split<;>rfl
   have HE:Hid (Calls Tryz.prog 166 #[.pointer (some ⟨M,0,none⟩),.int .i32 c] w λe w1=>e=.returned (.tuple #[.int .i32 0,.bool false])∧Hid (TlR lo M Pb B w (rStepS (aWork gs c a).1,none) (.returned (.bool false)) w1)):=by
    refine HEV.mono λe w1 hr=>?_;obtain⟨m1,hs1,h0,hr1⟩:=hr;have hv:=hs1.ended hae ho;have hev:evV m1=.tuple #[.int .i32 0,.bool false]:=by unfold evV;rw[if_pos hv.state]
    have he:=hr1.1;rw[hev]at he;exact⟨he,hfin (hr1.of (AG.refl _ _) (λb hb=>Or.inl hb) rfl) (by rw[est];exact⟨hv.kind,hv.su,hv.mu⟩)⟩
   clear h hs hw hg hlow HEV hE hRes etv hsb hen hc hn ht hRec hfin ho est hae hns hRe;go_enter Tryz.func113,Tryz.ntmps113;go_wp2_with (first
    |(go_at_call 166;refine HE.out.mono ?_;rintro e w1 ⟨rfl,HRR⟩;clear HE))
   go_ret;exact HRR.out
  |false=>
   obtain⟨v,ho⟩:∃v,(aWork gs c a).2=some v:=by
    cases hx:(aWork gs c a).2 with
    |none=>
     rcases hE with h1|h1
     ·exact absurd hx h1
     ·rw[hae]at h1;cases h1
    |some v=>exact⟨v,rfl⟩
   have hwb:WfB gs (aWork gs c a).1:=by
    have h2:=hRes.2;rw[ho]at h2;exact h2.1
   have est:rStepS (aWork gs c a).1={(aWork gs c a).1 with ended:=true,kind:=1}:=by
    rw[(rStep_no hwb).2 hsb];unfold rEnd;rw[hae];rfl
   have ew:aWork gs c a=((aWork gs c a).1,some v):=by rw[<-ho]
   have HE:Hid (Calls Tryz.prog 166 #[.pointer (some ⟨M,0,none⟩),.int .i32 c] w λe w1=>e=.returned (.tuple #[.int .i32 v,.bool true])∧Hid (Calls Tryz.prog 167 #[.pointer (some ⟨M,0,none⟩)] w1 λe w2=>e=.returned (.bool false)∧Hid (TlR lo M Pb B w (rStepS (aWork gs c a).1,none) (.returned (.bool false)) w2))):=by
    refine HEV.mono λe w1 hr=>?_;obtain⟨m1,hs1,h0,hr1⟩:=hr;rw[ew]at hs1;have hv:=hs1.val;obtain⟨rfl,hA1,B1,hM1,hB1⟩:=hr1;refine⟨by unfold evV;rw[if_neg (by rw[hv.state];decide),hv.stack];rfl,?_⟩;have hmt:Mtr m1:=⟨by rw[hv.su,hv.sm];exact hwb.steps,by rw[hv.sm];exact hwb.fuel,by rw[hv.mu,hv.mm];exact hwb.used,by rw[hv.mm];exact hwb.spare⟩;have hsb1:stepB m1=false:=by rw[step_sim hwb hv.su hv.sm];exact hsb
    have es1:stepS m1=stopS 1 m1:=by unfold stepS;rw[hsb1];rfl
    refine(step_any hM1 hmt).mono λe w2 hr2=>?_;rw[hsb1,es1]at hr2;have he:=hr2.1;exact⟨he,hfin (hr2.of hA1 hB1 rfl) (by rw[est];exact⟨rfl,hv.su,hv.mu⟩)⟩
   clear h hs hw hg hlow HEV hE hRes etv hsb hen hc hn ht hRec hfin ho est hae hns hRe hwb ew;go_enter Tryz.func113,Tryz.ntmps113;go_wp2_with (first
    |(go_at_call 166;refine HE.out.mono ?_;rintro e w1 ⟨rfl,HS⟩;clear HE)
    |(go_at_call 167;refine HS.out.mono ?_;rintro e w2 ⟨rfl,HRR⟩;clear HS))
   go_ret;exact HRR.out
end
end Go.Proofs.YtdpodpjdcfjfgaaGreatDoor
namespace Go.Proofs.YtdpodpjdcfjfgaaGreatDoor
open Go.RowKit Go.Sort Go.Shelf
attribute [local go_sem] Oper.semAt_some
def KpX(X:List Nat)(W W':World):Prop:=W.heap.size<=W'.heap.size∧∀k∈X,W'.heap[k]?=W.heap[k]?
theorem KpX.trans{X:List Nat}{A B C:World}(h:KpX X A B)(k:KpX X B C):KpX X A C:=⟨Nat.le_trans h.1 k.1,λb hb=>(k.2 b hb).trans (h.2 b hb)⟩
theorem KpX.refl(X:List Nat)(A:World):KpX X A A:=⟨Nat.le_refl _,λ_ _=>rfl⟩
theorem KpX.cell{X:List Nat}{A B:World}(h:KpX X A B){b:Nat}(hb:b∈X)(j:Nat):B.cell? ⟨b,j,none⟩=A.cell? ⟨b,j,none⟩:=World.cell?_of_block (a:=⟨b,j,none⟩) (h.2 b hb)
def bwd{α:Type}(zs:List α)(d:α)(k:Nat):List (Nat×α):=(List.range k).map λj=>(zs.length-1-j,zs[zs.length-1-j]?.getD d)
theorem bwd_succ{α:Type}(zs:List α)(d:α)(k:Nat):bwd zs d (k+1)=bwd zs d k++[(zs.length-1-k,zs[zs.length-1-k]?.getD d)]:=by simp[bwd,List.range_succ]
theorem bwd_length{α:Type}(zs:List α)(d:α)(k:Nat):(bwd zs d k).length=k:=by simp[bwd]
abbrev BwE(zs:List Int):Type:={x:Nat×Int // x.2∈zs}
theorem getD_mem{zs:List Int}{m:Nat}(h:m<zs.length):zs[m]?.getD 0∈zs:=by
 rw[List.getElem?_eq_getElem h];exact List.getElem_mem h
theorem bwR1_in(F:Fence)(n:Nat)(h7:F.fn 290)(hro:F.round=none)(hn:1<=n)(l Bs b off cap:Nat)(zs:List Int)(hl:zs.length<=1000000)(J Jx:List (BwE zs)->World->Prop)
 (hY:∀pre (x:BwE zs) W,J pre W->pre.length<zs.length->YieldAt F (n-1) Tryz.prog l #[.int .i64 (x.1.1:Int),.int .i32 x.1.2] W λe W'=>
  (e=.returned (.bool true)∧J (pre++[x]) W'∧KpX [Bs,b] W W')∨(e=.returned (.bool false)∧Jx (pre++[x]) W'))
 (W:World) (hBs:W.cell? ⟨Bs,0,none⟩=some (.slice (some ⟨b,off,none⟩) zs.length cap)) (hc:∀j,j<zs.length->W.cell? ⟨b,off+j,none⟩=some (.int .i32 (zs[j]?.getD 0))) (h0:J [] W):
 CallsIn F n Tryz.prog 290 #[.func (.yield l) #[] #[],.pointer (some ⟨Bs,0,none⟩)] W λe W'=>(∃v,e=.returned v)∧
  ((∃pre:List (BwE zs),pre.map (·.1)=bwd zs 0 zs.length∧J pre W')∨(∃k,∃pre:List (BwE zs),k<=zs.length∧pre.map (·.1)=bwd zs 0 k∧Jx pre W')):=by
 refine callsIn_of_wp Tryz.func290 rfl h7 ?_ hro;simp only[Tryz.ntmps290,List.size_toArray,List.length_cons,List.length_nil,Nat.reduceAdd,Nat.reduceSub,Array.replicate_succ,Array.replicate_zero,List.push_toArray,List.append_toArray,List.nil_append,List.cons_append];gi_wp2
 gi_loopw [3] (λi wr=>∃k:Nat,k<=zs.length∧i=.int .i64 ((zs.length:Int)-1-(k:Int))∧(∃pre:List (BwE zs),pre.map (·.1)=bwd zs 0 k∧J pre wr)∧KpX [Bs,b] W wr)
  (λi _=>(intOf i+1).toNat)
 case atStart=>exact⟨0,Nat.zero_le _,by simp,⟨[],rfl,h0⟩,KpX.refl _ _⟩
 case round=>
  obtain⟨k,hk,rfl,⟨pre,hpre,hJs⟩,hnx⟩:=hrel;have hBs':=(hnx.cell (b:=Bs) (by simp) 0).trans hBs;by_cases hlt:k<zs.length
  ·obtain⟨m,hm⟩:∃m,m=zs.length-1-k:=⟨_,rfl⟩;have hmi:(zs.length:Int)-1-(k:Int)=(m:Int):=by omega
   have hml:m<zs.length:=by omega
   have h2:(0:Int)<=(m:Int):=by omega
   have h3:(m:Int)<(zs.length:Int):=by omega
   have c0:=hc m hml;have c0':=(hnx.cell (b:=b) (by simp) _).trans c0;have hpl:pre.length=k:=by rw[<-bwd_length zs 0 k,<-hpre,List.length_map]
   have hmem:=getD_mem hml;obtain⟨q,hx⟩:∃x,zs[m]?.getD 0=x:=⟨_,rfl⟩;rw[hx]at c0' hmem;obtain⟨fn,tmps,assign,body,hy,hR⟩:=hY pre ⟨(m,q),hmem⟩ wr hJs (by rw[hpl];exact hlt);dsimp only at hy;have HX:=hid hx;have HPR:=hid hpre;clear hx c0 hc hpre;rw[hmi];have HMM:=hid hm;have HMI:=hid hmi;clear hm hmi;gi_wp2
   refine hR.mono ?_;rintro e W3 (⟨rfl,hJ3,hk3⟩|⟨rfl,hJx3⟩)
   ·gi_wp2
    go_roundw
    case rel=>exact⟨k+1,by omega,by have:=HMI.out;simp;omega,⟨_,by rw[bwd_succ,<-HMM.out,HX.out,List.map_append,HPR.out];rfl,hJ3⟩,hnx.trans hk3⟩
    case measure=>simp[intOf]
   ·gi_wp2
    refine bodyPost_ret (results_none rfl _ _ _) rfl ?_;exact⟨⟨_,rfl⟩,.inr ⟨k+1,_,by omega,by rw[bwd_succ,<-HMM.out,HX.out,List.map_append,HPR.out];rfl,hJx3⟩⟩
  ·obtain rfl:k=zs.length:=by omega
   have hneg:¬(0:Int)<=(zs.length:Int)-1-(zs.length:Int):=by omega
   gi_wp2
   go_end0
   exact⟨⟨_,rfl⟩,.inl ⟨pre,hpre,hJs⟩⟩
theorem bwR1_nil_in(F:Fence)(n:Nat)(h7:F.fn 290)(hro:F.round=none)(l Bs:Nat)(p:Option Addr)(c:Nat)(zs:List Int)(J:List (BwE zs)->World->Prop)(W:World)(hBs:W.cell? ⟨Bs,0,none⟩=some (.slice p 0 c))(h0:J [] W):
 CallsIn F n Tryz.prog 290 #[.func (.yield l) #[] #[],.pointer (some ⟨Bs,0,none⟩)] W λe W'=>(∃v,e=.returned v)∧J [] W':=by
 refine callsIn_of_wp Tryz.func290 rfl h7 ?_ hro;simp only[Tryz.ntmps290,List.size_toArray,List.length_cons,List.length_nil,Nat.reduceAdd,Nat.reduceSub,Array.replicate_succ,Array.replicate_zero,List.push_toArray,List.append_toArray,List.nil_append,List.cons_append];gi_wp2
 gi_loopw [3] (λi wr=>i=.int .i64 (-1)∧J [] wr) (λ_ _=>0)
 case atStart=>exact⟨rfl,h0⟩
 case round=>
  obtain⟨rfl,hJs⟩:=hrel;gi_wp2
  go_end0
  exact⟨⟨_,rfl⟩,hJs⟩
theorem bwR_in(F:Fence)(n:Nat)(h5:F.fn 228)(hro:F.round=none)(a:Option Addr)(len cap:Nat)(w:World):
 CallsIn F n Tryz.prog 228 #[.slice a len cap] w λe w'=>e=.returned (.func (.func 290) #[] #[.pointer (some ⟨w.heap.size,0,none⟩)])∧w'=w.alloc (.cells #[.slice a len cap] 243):=by
 refine callsIn_of_wp Tryz.func228 rfl h5 ?_ hro;simp only[Tryz.ntmps228,List.size_toArray,List.length_cons,List.length_nil,Nat.reduceAdd,Nat.reduceSub,Array.replicate_succ,Array.replicate_zero,List.push_toArray,List.append_toArray,List.nil_append,List.cons_append];gi_wp2
 go_ret;exact⟨rfl,rfl⟩
def fB:Option Addr->Nat->List Nat
 |some a,_+1=>[a.block]
 |_,_=>[]
def RefAt(W:World)(p:Option Addr)(zs:List Int):Prop:=∀j,j<zs.length->∃b o,p=some ⟨b,o,none⟩∧W.cell? ⟨b,o+j,none⟩=some (.int .i32 (zs[j]?.getD 0))
theorem bwR_stops(F:Fence)(n:Nat)(h7:F.fn 290)(hro:F.round=none)(hn:1<=n)(Bs:Nat)(p:Option Addr)(cap:Nat)(zs:List Int)(hl:zs.length<=1000000)(w:World)(hBs:Bs<w.heap.size)
 (hc:w.cell? ⟨Bs,0,none⟩=some (.slice p zs.length cap)) (hI:RefAt w p zs):
 SeqStopsK F n Tryz.prog 290 #[.pointer (some ⟨Bs,0,none⟩)] (λx:BwE zs=>#[Value.int .i64 (x.1.1:Int),Value.int .i32 x.1.2]) (KpX (Bs::fB p zs.length)) (λys=>ys.map (·.1)=bwd zs 0 zs.length)
  (λpre=>∃k,k<=zs.length∧pre.map (·.1)=bwd zs 0 k) zs.length w:=λl J Jx W hW _ _ hY h0=>by
 have hc':=(hW.cell (p:=⟨Bs,0,none⟩) hBs).trans hc;cases zs with
 |nil=>exact(bwR1_nil_in F n h7 hro l Bs p cap [] J W hc' h0).mono λe W' ⟨he,hj⟩=>⟨he,.inl ⟨_,rfl,hj⟩⟩
 |cons z zs=>
  obtain⟨b,off,rfl,hb0⟩:=hI 0 (by simp);have hbl:b<w.heap.size:=block_lt_of_cell hb0;have hcs:∀j,j<(z::zs).length->w.cell? ⟨b,off+j,none⟩=some (.int .i32 ((z::zs)[j]?.getD 0)):=λj hj=>by
   obtain⟨b',o',e,h1⟩:=hI j hj;cases e;exact h1
  refine(bwR1_in F n h7 hro hn l Bs b off cap (z::zs) hl J Jx hY W hc' (λj hj=>(hW.cell (p:=⟨b,off+j,none⟩) hbl).trans (hcs j hj)) h0).mono ?_;rintro e W' ⟨he,⟨pre,hp,hj⟩|⟨k,pre,hk,hp,hj⟩⟩
  ·exact⟨he,.inl ⟨pre,hp,hj⟩⟩
  ·exact⟨he,.inr ⟨pre,⟨k,hk,hp⟩,hj⟩⟩
theorem KpX.put{X:List Nat}{n0:Nat}(hX:∀k∈X,k<n0)(W:World)(l:Nat)(o o':Obj)(hl:n0<=l)(_:W.heap[l]?=some o)(_:o.isCells=false)(_:o.isWalk=false):KpX X W (W.putObj l o'):=
 ⟨by simp,λk hk=>World.putObj_heap_other (by have:=hX k hk;omega)⟩
theorem bwd_rev{α:Type}(l:List α)(d:α){k:Nat}(hk:k<=l.length):(bwd l d k).map (·.2)=l.reverse.take k:=by
 apply List.ext_getElem
 ·simp[bwd,hk]
 ·intro i h1 h2;have hi:i<k:=by simpa[bwd]using h1
  simp only[bwd,List.map_map,List.getElem_map,List.getElem_range,Function.comp,List.getElem_take,List.getElem_reverse];rw[List.getElem?_eq_getElem (by omega)];rfl
def isC(w:World)(b:Nat):Prop:=∃o:Obj,w.heap[b]?=some o∧o.isCells=true
theorem isC.of_row{w:World}{lo:Nat}{e:TypeId}{size n:Nat}{v:Value}{xs:List Value}(h:w.ownsRow lo e size v n xs){b:Nat}(hb:b∈vB v):isC w b:=by
 rcases h.2 with⟨rfl,-⟩|⟨g,cap,cur,rfl,-,hg,-⟩
 ·rw[vB_nil]at hb;cases hb
 ·rw[vB_slice]at hb;obtain rfl:=List.mem_singleton.1 hb;exact⟨_,hg,rfl⟩
theorem MM.cells{lo:Nat}{w:World}{M Pb:Nat}{st:MSt}{B:List Nat}(h:MM lo w M Pb st B):∀b∈B,isC w b:=by
 obtain⟨cs,ds,cv,sv,kv,dv,tv,h,rfl⟩:=h;intro b hb;rcases List.mem_cons.1 hb with rfl|hb
 ·exact cells_of_cell (h.m.at 0 rfl)
 rcases List.mem_append.1 hb with hb|hb
 ·exact .of_row h.cl hb
 rcases List.mem_append.1 hb with hb|hb
 ·exact .of_row h.sk hb
 rcases List.mem_append.1 hb with hb|hb
 ·exact .of_row h.dp hb
 ·exact .of_row h.tx hb
theorem FldX.frC{X:Nat->Prop}{w w':World}{v:Value}{l:List Int}(h:FldX X w v l)(hX:∀b,X b->isC w b->w'.heap[b]?=w.heap[b]?):FldX X w' v l:=by
 obtain⟨p,cap,e,hc⟩:=h;refine⟨p,cap,e,λi hi=>?_⟩;obtain⟨b,o,hx,e2,h0⟩:=hc i hi;exact⟨b,o,hx,e2,cell_same (hX b hx (cells_of_cell h0)) h0⟩
theorem MM.turn{lo:Nat}{w w':World}{M Pb:Nat}{st:MSt}{B:List Nat}(h:MM lo w M Pb st B){row:Option Nat}(hg:w.grownBy w' row)(hr:∀r,row=some r->lo<=r∧∃o:Obj,w.heap[r]?=some o∧o.isCells=false):MM lo w' M Pb st B:=by
 have hc:=h.cells;have hlz:=h.lows;have hne:∀b,isC w b->b<w.heap.size->w'.heap[b]?=w.heap[b]?:=λb hb hl=>hg.block b hl λe=>by
  obtain⟨o,ho,hoc⟩:=hb;obtain⟨-,o',ho',hc'⟩:=hr b e.symm;rw[ho]at ho';cases ho';rw[hoc]at hc';cases hc'
 have hlt:∀b,isC w b->b<w.heap.size:=λb hb=>by
  obtain⟨o,ho,-⟩:=hb;exact(Array.getElem?_eq_some_iff.1 ho).1
 have hbl:Below lo w w':=⟨hg.os,hg.tape,hg.output,hg.size,λk hk=>hg.block k (by omega) λe=>by have:=(hr k e.symm).1;omega⟩;obtain⟨cs,ds,cv,sv,kv,dv,tv,h,rfl⟩:=h;have hb:∀b∈mB M cv sv dv tv,w'.heap[b]?=w.heap[b]?:=λb hb=>hne b (hc b hb) (hlt b (hc b hb));have hfr:∀v,(∀b∈vB v,b∈vB cv++(vB sv++(vB dv++vB tv)))->Fr (vB v) w w':=λv hv b hm=>hb b (List.mem_cons_of_mem _ (hv b hm));exact⟨cs,ds,cv,sv,kv,dv,tv,⟨h.m.of_block (hb M (List.mem_cons_self ..)) hg.size,row_fr h.cl (hfr cv λb hb=>List.mem_append_left _ hb),λx hx=>(h.fl x hx).frC λb _ hi=>hne b hi (hlt b hi),row_fr h.sk (hfr sv λb hb=>List.mem_append_right _ (List.mem_append_left _ hb)),row_fr h.dp (hfr dv λb hb=>List.mem_append_right _ (List.mem_append_right _ (List.mem_append_left _ hb))),λx hx=>(h.dc x hx).fr hbl,h.cd.fr hbl,row_fr h.tx (hfr tv λb hb=>List.mem_append_right _ (List.mem_append_right _ (List.mem_append_right _ hb))),h.hcs,h.hds,h.nd,h.ml⟩,rfl⟩
theorem AG.turn{X:List Nat}{w w1 w2:World}(h:AG X w w1){row:Option Nat}(hg:w1.grownBy w2 row)(hr:∀r,row=some r->w.heap.size<=r):AG X w w2:=h.grown hg λb e=>Or.inr (hr b e)
theorem MM.keeps{lo:Nat}{w w':World}{M Pb:Nat}{st:MSt}{B:List Nat}(h:MM lo w M Pb st B)(hf:AG B w w')(B0:Nat):KeepsFrom B0 w w':=
 ⟨hf.size,λk o _ hk ho=>by
  rw[hf.block k (Array.getElem?_eq_some_iff.1 hk).1 (λhm=>?_)]
  ·exact hk
  ·obtain⟨o',ho',hc⟩:=h.cells k hm;rw[hk]at ho';cases ho';rw[ho]at hc;cases hc⟩
end Go.Proofs.YtdpodpjdcfjfgaaGreatDoor
