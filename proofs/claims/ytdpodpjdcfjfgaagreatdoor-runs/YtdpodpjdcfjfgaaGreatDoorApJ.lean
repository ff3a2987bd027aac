import Derived.Test.YtdpodpjdcfjfgaaGreatDoorRrJ
set_option maxRecDepth 100000
set_option maxHeartbeats 400000
namespace Go.Proofs.YtdpodpjdcfjfgaaGreatDoor
open Go.RowKit Go.Sort Go.Shelf
attribute [local go_sem] Oper.semAt_some
def bwV{zs:List Int}(pre:List (BwE zs)):List Int:=pre.map λy=>y.1.2
theorem cat4(l:List UInt8):(⟨#[40]⟩:ByteArray)++⟨l.toArray⟩=⟨(40::l).toArray⟩:=by
 apply ByteArray.ext;rw[ByteArray.data_append];simp
section
variable {lo:Nat} {w:World} {M Pb:Nat} {m:MSt} {B:List Nat} {gs:List LGlob} {D:Nat->Nat->Int} {t:List UInt8} {a b:ASt} {gp:Option Addr} {gc:Nat} {G:Nat->Int×Option Addr×Nat×Nat}
theorem tFl_snoc(l:List Int)(f:Int):tFl (l++[f])=tFl l++[([32],-1),([],f)]:=by simp[tFl]
def RcI(lo M Pb:Nat)(B:List Nat)(w:World)(gs:List LGlob)(a:ASt)(t:List UInt8)(l:List Int)(W:World):Prop:=∃a1 t1 m1 B1,tEnd gs (tFl l) a t=(a1,some t1)∧SimT t1 a1 m1∧MM lo W M Pb m1 B1∧AG B w W∧∀b∈B1,b∈B∨w.heap.size<=b
def RcX(lo M Pb rb:Nat)(B:List Nat)(w:World)(gs:List LGlob)(a:ASt)(t:List UInt8)(l:List Int)(W:World):Prop:=∃a1 m1 B1,tEnd gs (tFl l) a t=(a1,none)∧(m1.kind=a1.kind∧m1.su=a1.steps∧m1.mu=a1.used)∧MM lo W M Pb m1 B1∧AG (rb::B) w W∧(∀b∈B1,b∈B∨w.heap.size<=b)∧W.cell? ⟨rb,0,none⟩=some (.bool false)
theorem tFl_ok{l:List Int}(h:∀f∈l,0<=f∧f<(a.cells.length:Int)):TdOk (tFl l) a:=by
 intro p hp;obtain⟨f,hf,hp⟩:=List.mem_flatMap.1 hp;simp only[List.mem_cons,List.not_mem_nil,or_false]at hp;rcases hp with rfl|rfl
 ·show(-1:Int)<_;omega
 ·exact(h f hf).2
theorem rec_next(hG:ImgOk gs D)(hw:WfB gs a){l:List Int}{f:Int}(hl:∀f∈l,0<=f∧f<(a.cells.length:Int))(hf:0<=f∧f<(a.cells.length:Int)){a1:ASt}{t1:List UInt8}(e:tEnd gs (tFl l) a t=(a1,some t1)):
 WfB gs a1∧f<(a1.cells.length:Int)∧tEnd gs (tFl (l++[f])) a t=tSay [32] a1 t1 λt'=>tEnd gs [([],f)] a1 t':=by
 rw[tFl_snoc];rcases tEnd_app hG _ (X:=tFl l) (L:=[([32],-1),([],f)]) (t:=t) hw (tFl_ok hl) (λp hp=>by
  simp only[List.mem_cons,List.not_mem_nil,or_false]at hp;rcases hp with rfl|rfl
  ·show(-1:Int)<_;omega
  ·exact hf.2) (Nat.le_refl _) with⟨b1,s1,e1,e2,h1,h2,-⟩|⟨b1,e1,-⟩
 ·rw[e]at e1;cases e1;refine⟨h1,by omega,?_⟩;rw[e2,tEnd_piece (by decide)]
 ·rw[e]at e1;cases e1
theorem rec_last(hG:ImgOk gs D)(hw:WfB gs a){l:List Int}(hl:∀f∈l,0<=f∧f<(a.cells.length:Int)):
 (∀a1 t1,tEnd gs (tFl l) a t=(a1,some t1)->WfB gs a1∧tEnd gs (tFl l++[([41],-1)]) a t=tSay [41] a1 t1 λt'=>(a1,some t'))∧(∀a1,tEnd gs (tFl l) a t=(a1,none)->tEnd gs (tFl l++[([41],-1)]) a t=(a1,none)):=by
 rcases tEnd_app hG _ (X:=tFl l) (L:=[([41],-1)]) (t:=t) hw (tFl_ok hl) (λp hp=>by
  rw[List.mem_singleton.1 hp];show(-1:Int)<_;omega) (Nat.le_refl _) with⟨b1,s1,e1,e2,h1,h2,-⟩|⟨b1,e1,e2,-⟩
 ·refine⟨λa1 t1 e=>?_,λa1 e=>?_⟩
  ·rw[e]at e1;cases e1;refine⟨h1,?_⟩;rw[e2,tEnd_piece (by decide)];simp only[tEnd_nil]
  ·rw[e]at e1;cases e1
 ·refine⟨λa1 t1 e=>?_,λa1 e=>?_⟩
  ·rw[e]at e1;cases e1
  ·rw[e]at e1;cases e1;exact e2
theorem rec_cut(hG:ImgOk gs D)(hw:WfB gs a){l r:List Int}(hl:∀f∈l++r,0<=f∧f<(a.cells.length:Int)){a1:ASt}(e:tEnd gs (tFl l) a t=(a1,none)):tEnd gs (tFl (l++r)) a t=(a1,none):=by
 have ef:tFl (l++r)=tFl l++tFl r:=by simp[tFl]
 rw[ef];rcases tEnd_app hG _ (X:=tFl l) (L:=tFl r) (t:=t) hw (tFl_ok λf hf=>hl f (List.mem_append_left _ hf)) (tFl_ok λf hf=>hl f (List.mem_append_right _ hf)) (Nat.le_refl _) with⟨b1,s1,e1,-⟩|⟨b1,e1,e2,-⟩
 ·rw[e]at e1;cases e1
 ·rw[e]at e1;cases e1;exact e2
theorem FldX.setB{X:Nat->Prop}{w:World}{v:Value}{l:List Int}{b:Nat}{y z:Bool}(h:FldX X w v l)(hc:w.cell? ⟨b,0,none⟩=some (.bool y)):FldX X (w.setCell ⟨b,0,none⟩ (.bool z)) v l:=by
 obtain⟨p,cap,e,hcs⟩:=h;refine⟨p,cap,e,λi hi=>?_⟩;obtain⟨b',o,hx,e2,h0⟩:=hcs i hi;refine⟨b',o,hx,e2,?_⟩;by_cases hb:b'=b
 ·subst hb;by_cases ho:o+i=0
  ·rw[ho,hc]at h0;cases h0
  ·rw[setc (Ne.symm ho)];exact h0
 ·rw[World.cell?_of_block (a:=⟨b',o+i,none⟩) (Below.heap_setCell _ _ _ _ hb)];exact h0
theorem MM.setBox(h:MM lo w M Pb m B){b:Nat}(hb:b∉B)(hlo:lo<=b){y:Bool}(hc:w.cell? ⟨b,0,none⟩=some (.bool y))(z:Bool):MM lo (w.setCell ⟨b,0,none⟩ (.bool z)) M Pb m B:=by
 obtain⟨cs,ds,cv,sv,kv,dv,tv,h,rfl⟩:=h;have hbl:Below lo w (w.setCell ⟨b,0,none⟩ (.bool z)):=(Below.refl _ _).setCell hlo _;have hk:∀q∈mB M cv sv dv tv,(w.setCell ⟨b,0,none⟩ (.bool z)).heap[q]?=w.heap[q]?:=λq hq=>Below.heap_setCell _ _ _ _ (show q≠b from λe=>hb (e▸hq));have hfr:∀v,(∀q∈vB v,q∈vB cv++(vB sv++(vB dv++vB tv)))->Fr (vB v) w (w.setCell ⟨b,0,none⟩ (.bool z)):=λv hv q hm=>hk q (List.mem_cons_of_mem _ (hv q hm));exact⟨cs,ds,cv,sv,kv,dv,tv,⟨h.m.of_block (hk M (List.mem_cons_self ..)) (by simp),row_fr h.cl (hfr cv λb hb=>List.mem_append_left _ hb),λx hx=>(h.fl x hx).setB hc,row_fr h.sk (hfr sv λb hb=>List.mem_append_right _ (List.mem_append_left _ hb)),row_fr h.dp (hfr dv λb hb=>List.mem_append_right _ (List.mem_append_right _ (List.mem_append_left _ hb))),λx hx=>(h.dc x hx).fr hbl,h.cd.fr hbl,row_fr h.tx (hfr tv λb hb=>List.mem_append_right _ (List.mem_append_right _ (List.mem_append_right _ hb))),h.hcs,h.hds,h.nd,h.ml⟩,rfl⟩
theorem RcI.turn{B1:List Nat}{W2 X Y:World}{l:List Int}(h:RcI lo M Pb B1 W2 gs a t l X)(hlo:lo<=W2.heap.size){row:Option Nat}(hg:X.grownBy Y row)(hr:∀r,row=some r->W2.heap.size<=r∧∃o:Obj,X.heap[r]?=some o∧o.isCells=false):RcI lo M Pb B1 W2 gs a t l Y:=by
 obtain⟨a1,t1,m1,B2,h1,h2,h3,h4,h5⟩:=h;exact⟨a1,t1,m1,B2,h1,h2,h3.turn hg (λr e=>⟨Nat.le_trans hlo (hr r e).1,(hr r e).2⟩),h4.turn hg (λr e=>(hr r e).1),h5⟩
theorem RcX.turn{B1:List Nat}{W2 X Y:World}{l:List Int}{rb:Nat}(h:RcX lo M Pb rb B1 W2 gs a t l X)(hlo:lo<=W2.heap.size){row:Option Nat}(hg:X.grownBy Y row)(hr:∀r,row=some r->W2.heap.size<=r∧∃o:Obj,X.heap[r]?=some o∧o.isCells=false):RcX lo M Pb rb B1 W2 gs a t l Y:=by
 obtain⟨a1,m1,B2,h1,h2,h3,h4,h5,h6⟩:=h;exact⟨a1,m1,B2,h1,h2,h3.turn hg (λr e=>⟨Nat.le_trans hlo (hr r e).1,(hr r e).2⟩),h4.turn hg (λr e=>(hr r e).1),h5,cell_kept h6 hg (λr e=>(hr r e).2)⟩
def RcB(M s0 s2:Nat)(X:World):Prop:=X.cell? ⟨s0,0,none⟩=some (.pointer (some ⟨M,0,none⟩))∧X.cell? ⟨s2,0,none⟩=some (.bool false)∧X.frozen? ⟨s2,0,none⟩=false
def RcE(lo M Pb s2:Nat)(B1:List Nat)(W2:World)(gs:List LGlob)(a:ASt)(t:List UInt8)(l:List Int)(W X:World):Prop:=KeepsFrom W2.heap.size W X∧RcX lo M Pb s2 B1 W2 gs a t l X
def RcN(lo M Pb:Nat)(B1:List Nat)(W2:World)(gs:List LGlob)(a:ASt)(t:List UInt8)(l:List Int)(W X:World):Prop:=KeepsFrom W2.heap.size W X∧(W.heap.size<=X.heap.size∧∀q,q<W2.heap.size->q∉B1->X.heap[q]?=W.heap[q]?)∧RcI lo M Pb B1 W2 gs a t l X
theorem rec_body{W2 W:World}{B1:List Nat}{l:List Int}{f:Int}{s0 s2 k:Nat}(hg:TlG lo Pb gs D gp gc G W2)(hlo:lo<=W2.heap.size∧∀b∈B1,lo<=b)(hw:WfB gs a)(hl:∀f∈l,0<=f∧f<(a.cells.length:Int))(hf:0<=f∧f<(a.cells.length:Int))(hT:TelC lo M Pb gs D gp gc G k)(hn:2000<=t.length+1+k)(ht:t.length<=2000)(hI:RcI lo M Pb B1 W2 gs a t l W)(hs2:lo<=s2∧s2<W2.heap.size∧s2∉B1)(hBX:∀X,AG B1 W2 X->RcB M s0 s2 X):
 (Calls Tryz.prog 168 #[.pointer (some ⟨M,0,none⟩),.string ⟨#[32]⟩] W λe w5=>e=.returned (.bool false)∧RcB M s0 s2 w5∧Hid (RcE lo M Pb s2 B1 W2 gs a t (l++[f]) W (w5.setCell ⟨s2,0,none⟩ (.bool false))))∨
 (Calls Tryz.prog 168 #[.pointer (some ⟨M,0,none⟩),.string ⟨#[32]⟩] W λe w5=>e=.returned (.bool true)∧RcB M s0 s2 w5∧Hid (Calls Tryz.prog 113 #[.pointer (some ⟨M,0,none⟩),.int .i32 f] w5 λe w6=>e=.returned (.bool false)∧RcB M s0 s2 w6∧Hid (RcE lo M Pb s2 B1 W2 gs a t (l++[f]) W (w6.setCell ⟨s2,0,none⟩ (.bool false)))))∨
 (Calls Tryz.prog 168 #[.pointer (some ⟨M,0,none⟩),.string ⟨#[32]⟩] W λe w5=>e=.returned (.bool true)∧RcB M s0 s2 w5∧Hid (Calls Tryz.prog 113 #[.pointer (some ⟨M,0,none⟩),.int .i32 f] w5 λe w6=>e=.returned (.bool true)∧Hid (RcN lo M Pb B1 W2 gs a t (l++[f]) W w6))):=by
 obtain⟨a1,t1,m2,B2,hE,hs,hM,hA,hB⟩:=hI;obtain⟨hw1,hf1,hnext⟩:=rec_next (t:=t) hg.g hw hl hf hE;obtain⟨hl1,hl2⟩:=tEnd_len hE;have ht1:=hl2 ht;have hzz:=hA.size;have hnB:∀{B':List Nat},(∀b∈B',b∈B2∨W.heap.size<=b)->∀b∈B',b∈B1∨W2.heap.size<=b:=λh b hb=>(h b hb).elim (hB b) λh1=>Or.inr (Nat.le_trans hzz h1);have hset:∀{X:World} {m':MSt} {B':List Nat} {a':ASt},AG B2 W X->MM lo X M Pb m' B'->(∀b∈B',b∈B2∨W.heap.size<=b)->(m'.kind=a'.kind∧m'.su=a'.steps∧m'.mu=a'.used)->tEnd gs (tFl (l++[f])) a t=(a',none)->RcE lo M Pb s2 B1 W2 gs a t (l++[f]) W (X.setCell ⟨s2,0,none⟩ (.bool false)):=λhAX hMX hBX' hk he=>by
  have hAX2:=hA.trans hAX hB;obtain⟨-,q2,-⟩:=hBX _ hAX2;have hB':=hnB hBX';have hs2':s2∉_:=λhm=>(hB' s2 hm).elim hs2.2.2 λh1=>by omega
  refine⟨?_,_,_,_,he,hk,hMX.setBox hs2' hs2.1 q2 false,?_,hB',World.cell?_setCell_same _ _ _ q2⟩
  ·have kf:=hM.keeps hAX W2.heap.size;refine⟨by simpa using kf.size,λj o h1 h2 h3=>?_⟩;rw[Below.heap_setCell _ _ _ _ (show j≠s2 by omega)];exact kf.same j o h1 h2 h3
  ·exact AG.set ⟨hAX2.os,hAX2.tape,hAX2.output,hAX2.size,λj hj hm=>hAX2.block j hj λh=>hm (List.mem_cons_of_mem _ h)⟩ (Or.inl (List.mem_cons_self ..)) _
 have hsay:=say_both hM hs hw1.live ⟨#[32]⟩ (by show(1:Nat)<=_;omega) ht1;have e32:(⟨#[32]⟩:ByteArray).data.toList=[32]:=rfl;rw[e32]at hsay;by_cases hc:t1.length+([32]:List UInt8).length<=2000
 ·have hts:∀(k:List UInt8->TRes),tSay [32] a1 t1 k=k (t1++[32]):=λk=>by unfold tSay;rw[if_pos hc]
  rw[hts]at hnext hsay;have hlen2:(t1++[32]).length=t1.length+1:=by simp
  have hc':t1.length+1<=2000:=hc;have htl:∀w5 m5 B5,SimT (t1++[32]) a1 m5->MM lo w5 M Pb m5 B5->AG B2 W w5->(∀b∈B5,b∈B2∨W.heap.size<=b)->Calls Tryz.prog 113 #[.pointer (some ⟨M,0,none⟩),.int .i32 f] w5 λe w6=>TlR lo M Pb B5 w5 (tEnd gs [([],f)] a1 (t1++[32])) e w6:=λw5 m5 B5 h1 h2 h3 h4=>hT w5 m5 B5 (t1++[32]) a1 f (by omega) (by omega) (hg.low ((hA.trans h3 hB).low hlo.2 hlo.1)) h2 h1 hw1 ⟨hf.1,hf1⟩;have hgo:∀{o:Bool} {Z:World->Prop},(tEnd gs [([],f)] a1 (t1++[32])).2.isSome=o->(∀w6 m6 B6,TlS (tEnd gs [([],f)] a1 (t1++[32])) m6->MM lo w6 M Pb m6 B6->AG B2 W w6->(∀b∈B6,b∈B2∨W.heap.size<=b)->Z w6)->Calls Tryz.prog 168 #[.pointer (some ⟨M,0,none⟩),.string ⟨#[32]⟩] W λe w5=>e=.returned (.bool true)∧RcB M s0 s2 w5∧Hid (Calls Tryz.prog 113 #[.pointer (some ⟨M,0,none⟩),.int .i32 f] w5 λe w6=>e=.returned (.bool o)∧Z w6):=λho hZ=>by
   refine hsay.mono λe w5 hr=>?_;obtain⟨m5,hs5,he,hA5,B5,hM5,hB5⟩:=hr;refine⟨he,hBX w5 (hA.trans hA5 hB),(htl w5 m5 B5 hs5 hM5 hA5 hB5).mono λe w6 hr6=>?_⟩;obtain⟨m6,hs6,he6,hA6,B6,hM6,hB6⟩:=hr6;rw[ho]at he6;exact⟨he6,hZ w6 m6 B6 hs6 hM6 (hA5.trans hA6 hB5) λb hb=>(hB6 b hb).elim (hB5 b) λh1=>Or.inr (Nat.le_trans hA5.size h1)⟩
  cases hx:(tEnd gs [([],f)] a1 (t1++[32])).2 with
  |none=>
   have hp:tEnd gs [([],f)] a1 (t1++[32])=((tEnd gs [([],f)] a1 (t1++[32])).1,none):=by rw[<-hx]
   refine Or.inr (Or.inl (hgo (by rw[hx];rfl) λw6 m6 B6 h1 h2 h3 h4=>⟨hBX w6 (hA.trans h3 hB),?_⟩));rw[hp]at h1 hnext;exact hset h3 h2 h4 h1 hnext
  |some t2=>
   have hp:tEnd gs [([],f)] a1 (t1++[32])=((tEnd gs [([],f)] a1 (t1++[32])).1,some t2):=by rw[<-hx]
   refine Or.inr (Or.inr (hgo (by rw[hx];rfl) λw6 m6 B6 h1 h2 h3 h4=>?_));rw[hp]at h1 hnext;have hA6:=hA.trans h3 hB;refine⟨hM.keeps h3 _,⟨h3.size,λq hq hqB=>h3.block q (by omega) λhm=>?_⟩,_,_,m6,B6,hnext,h1,h2,hA6,hnB h4⟩;rcases hB q hm with h5|h5
   ·exact hqB h5
   ·omega
 ·have hts:∀(k:List UInt8->TRes),tSay [32] a1 t1 k=(rEnd 8 a1,none):=λk=>by unfold tSay;rw[if_neg hc]
  rw[hts]at hnext hsay;left
  refine hsay.mono λe w5 hr=>?_;obtain⟨m5,hs5,he,hA5,B5,hM5,hB5⟩:=hr;exact⟨he,hBX w5 (hA.trans hA5 hB),hset hA5 hM5 hB5 hs5 hnext⟩
theorem rec_any{n:Nat}(hT:∀k,k<n->TelC lo M Pb gs D gp gc G k):RecC lo M Pb gs D gp gc G n:=by
 intro w m B t a x p k c hn ht hg h hs hw hck hk3 hfx;have hpi:tPiece x=40::Lib.itoa x.n:=by unfold tPiece;rw[if_neg (by omega),if_pos hk3]
 have hmo:tMore x=tFl x.fields.reverse++[([41],-1)]:=by unfold tMore;rw[if_pos hk3]
 rw[hpi,hmo];obtain⟨R,hR⟩:∃R,tSay (40::Lib.itoa x.n) a t (λt'=>tEnd gs (tFl x.fields.reverse++[([41],-1)]) a t')=R:=⟨_,rfl⟩;rw[hR];have hlow:=h.lows;have hxn:=hck.n;have hil:=Lib.itoa_length_le x.n hxn.1 hxn.2;obtain⟨W0,hW0⟩:∃W0,((w.alloc (.cells #[.pointer (some ⟨M,0,none⟩)] 238)).alloc (.cells #[.int .u8 3,.int .i64 x.n,.int .i32 x.left,.int .i32 x.right,.slice p k c] 338)).alloc (.cells #[.bool false] 4)=W0:=⟨_,rfl⟩;have hz0:W0.heap.size=w.heap.size+1+1+1:=by rw[<-hW0];simp
 have hb0:Below w.heap.size w W0:=by rw[<-hW0];exact(((Below.refl _ w).alloc (Nat.le_refl _) _).alloc (by simp) _).alloc (by simp;omega) _
 have d0:W0.cell? ⟨w.heap.size,0,none⟩=some (.pointer (some ⟨M,0,none⟩)):=by rw[<-hW0];exact alloc_old _ _ _ _ _ (alloc_old _ _ _ _ _ (by simp))
 have hb5:=FBL.new5 (w.alloc (.cells #[.pointer (some ⟨M,0,none⟩)] 238)) (.int .u8 3) (.int .i64 x.n) (.int .i32 x.left) (.int .i32 x.right) (.slice p k c) 338;rw[World.size_alloc]at hb5;have d1:W0.cell? ⟨w.heap.size+1,1,none⟩=some (.int .i64 x.n):=by rw[<-hW0];exact alloc_old _ _ _ _ _ (hb5.at 1 rfl)
 have d4:W0.cell? ⟨w.heap.size+1,4,none⟩=some (.slice p k c):=by rw[<-hW0];exact alloc_old _ _ _ _ _ (hb5.at 4 rfl)
 have d2:W0.cell? ⟨w.heap.size+1+1,0,none⟩=some (.bool false):=by
  rw[<-hW0];have:=(Boxed.new ((w.alloc (.cells #[.pointer (some ⟨M,0,none⟩)] 238)).alloc (.cells #[.int .u8 3,.int .i64 x.n,.int .i32 x.left,.int .i32 x.right,.slice p k c] 338)) 4 (.bool false)).cell;rw[World.size_alloc,World.size_alloc]at this;exact this
 have f2:W0.frozen? ⟨w.heap.size+1+1,0,none⟩=false:=by
  rw[<-hW0];have:=frozen_new ((w.alloc (.cells #[.pointer (some ⟨M,0,none⟩)] 238)).alloc (.cells #[.int .u8 3,.int .i64 x.n,.int .i32 x.left,.int .i32 x.right,.slice p k c] 338)) #[.bool false] 4 0;rw[World.size_alloc,World.size_alloc]at this;exact this
 clear hb5;obtain⟨ok,hok⟩:∃ok,decide (t.length+(40::Lib.itoa x.n).length<=2000)=ok:=⟨_,rfl⟩;have hRok:(ok=true->R=tEnd gs (tFl x.fields.reverse++[([41],-1)]) a (t++40::Lib.itoa x.n)∧t.length+(40::Lib.itoa x.n).length<=2000)∧(ok=false->R=(rEnd 8 a,none)):=by
  rw[<-hR,<-hok];unfold tSay;refine⟨λe=>?_,λe=>?_⟩
  ·have:=of_decide_eq_true e;exact⟨if_pos this,this⟩
  ·exact if_neg (of_decide_eq_false e)
 have HIT:Hid (∀X,Below W0.heap.size W0 X->Calls Tryz.prog 41 #[.int .i64 x.n] X λe w'=>e=.returned (.string ⟨(Lib.itoa x.n).toArray⟩)∧Hid (Below W0.heap.size W0 w')):=λX hX=>(itoa_any x.n hxn.1 hxn.2 X ((hg.low ((hb0.trans (hX.mono hb0.size)).mono hlow.1)).tab.here)).mono λe w' ⟨he,k,os,hw⟩=>⟨he,by rw[hw];exact hX.trans (Lib.below_grow _ _ hX.size k os)⟩;have HSY:Hid (∀X,Below W0.heap.size W0 X->Calls Tryz.prog 168 #[.pointer (some ⟨M,0,none⟩),.string (⟨#[40]⟩++⟨(Lib.itoa x.n).toArray⟩)] X λe w1=>e=.returned (.bool ok)∧Hid (∃m1 B1,MM lo w1 M Pb m1 B1∧AG B W0 w1∧(∀b∈B1,b∈B∨W0.heap.size<=b)∧(ok=true->SimT (t++40::Lib.itoa x.n) a m1)∧(ok=false->TlS (rEnd 8 a,none) m1))):=λX hX=>by
  rw[cat4];refine(say_both (h.keep (hb0.trans (hX.mono hb0.size))) hs hw.live ⟨(40::Lib.itoa x.n).toArray⟩ (by show(40::Lib.itoa x.n).toArray.size<=_;rw[List.size_toArray,List.length_cons];omega) ht).mono λe w1 hr=>?_;obtain⟨m1,hs1,he,hA1,B1,hM1,hB1⟩:=hr;have hlist:(⟨(40::Lib.itoa x.n).toArray⟩:ByteArray).data.toList=40::Lib.itoa x.n:=rfl;rw[hlist]at hs1 he;refine⟨?_,m1,B1,hM1,(AG.of_below (X:=B) hX).trans hA1 (λb hb=>Or.inl hb),λb hb=>(hB1 b hb).imp id λh1=>Nat.le_trans hX.size h1,λe1=>?_,λe1=>?_⟩
  ·rw[he,<-hok];unfold tSay;split
   ·rename_i hl
    rw[decide_eq_true hl];rfl
   ·rename_i hl
    rw[decide_eq_false hl];rfl
  ·rw[<-hok]at e1;unfold tSay at hs1;rw[if_pos (of_decide_eq_true e1)]at hs1;exact hs1
  ·rw[<-hok]at e1;unfold tSay at hs1;rw[if_neg (of_decide_eq_false e1)]at hs1;exact hs1
 have HGX:Hid (∀X,Below W0.heap.size W0 X->X.cell? ⟨w.heap.size,0,none⟩=some (.pointer (some ⟨M,0,none⟩))∧X.cell? ⟨w.heap.size+1,1,none⟩=some (.int .i64 x.n)):=λX hX=>⟨cell_keep hX d0,cell_keep hX d1⟩;have hbd:Below W0.heap.size W0 W0.drew:=(Below.refl _ _).drew;have hlB:∀b∈B,b<w.heap.size:=by
  obtain⟨cs,ds,cv,sv,kv,dv,tv,h,rfl⟩:=h;exact λb hb=>(h.rg b hb).2
 have HBOX:Hid (∀X,AG B W0 X->X.cell? ⟨w.heap.size,0,none⟩=some (.pointer (some ⟨M,0,none⟩))∧X.cell? ⟨w.heap.size+1,4,none⟩=some (.slice p k c)∧X.cell? ⟨w.heap.size+1+1,0,none⟩=some (.bool false)∧X.frozen? ⟨w.heap.size+1+1,0,none⟩=false):=λX hX=>by
  have hne:∀b,w.heap.size<=b->b<w.heap.size+1+1+1->X.heap[b]?=W0.heap[b]?:=λb h1 h2=>hX.block b (by omega) λhm=>by have:=hlB b hm;omega
  exact⟨cell_same (hne _ (by omega) (by omega)) d0,cell_same (hne _ (by omega) (by omega)) d4,cell_same (hne _ (by omega) (by omega)) d2,by rw[World.frozen?_of_block (a:=⟨w.heap.size+1+1,0,none⟩) (hne (w.heap.size+1+1) (by omega) (by omega))];exact f2⟩
 have HFIN:Hid (∀X m1 B1,MM lo X M Pb m1 B1->AG ((w.heap.size+1+1)::B) W0 X->(∀b∈B1,b∈B∨W0.heap.size<=b)->TlS R m1->TlR lo M Pb B w R (.returned (.bool R.2.isSome)) X):=λX m1 B1 h1 h2 h3 h4=>by
  have hz:=h2.size;refine⟨m1,h4,rfl,⟨h2.os.trans hb0.os,h2.tape.trans hb0.tape,h2.output.trans hb0.output,by omega,λq hq hqB=>?_⟩,B1,h1,λb hb=>(h3 b hb).imp id λh5=>by omega⟩;rw[h2.block q (by omega) (λhm=>(List.mem_cons.1 hm).elim (λe=>by omega) hqB)];exact hb0.block q hq
 have HLB:=hid hlB;have HMAIN:=hid (And.intro h (And.intro hs (And.intro hw (And.intro hg (And.intro hck hfx)))));have HLOW:=hid hlow;have HTT:=hid hT;have HB0:=hid hb0;have HZ0:=hid hz0;have HN:=hid (And.intro hn ht);have HRO:=hid hRok;refine(callsIn_wide (n:=9)).1 ?_;refine callsIn_of_wp_marks Tryz.func169 rfl trivial ?_ rfl;simp only[Tryz.ntmps169,List.size_toArray,List.length_cons,List.length_nil,Nat.reduceAdd,Nat.reduceSub,Array.replicate_succ,Array.replicate_zero,List.push_toArray,List.append_toArray,List.nil_append,List.cons_append];clear h hs hw hg hck hfx hT hlow hlB hb0 d2 f2 d4 hz0 hn ht hR hRok hpi hmo hok hxn hk3;gi_wp2
 have d0d:W0.drew.cell? ⟨w.heap.size,0,none⟩=_:=d0;have d1d:W0.drew.cell? ⟨w.heap.size+1,1,none⟩=_:=d1;clear hW0 d0 d1;refine wpIn_mono (Q:=Exit.then (λa' w'=>a'={tmps:=#[.pointer (some ⟨M,0,none⟩),.agg #[.int .u8 3,.int .i64 x.n,.int .i32 x.left,.int .i32 x.right,.slice p k c],.pointer (some ⟨w.heap.size,0,none⟩),.pointer (some ⟨w.heap.size+1,0,none⟩),.pointer (some ⟨w.heap.size+1+1,0,none⟩),undef,undef,.pointer (some ⟨M,0,none⟩),.pointer (some ⟨w.heap.size+1,1,none⟩),.int .i64 x.n,.string ⟨(Lib.itoa x.n).toArray⟩,.string (⟨#[40]⟩++⟨(Lib.itoa x.n).toArray⟩),.bool ok,.bool (!ok),undef,undef,undef,undef,undef,undef,undef,undef,undef,undef,undef,undef,undef,undef,undef,undef],defers:=[]}∧Hid (∃m1 B1,MM lo w' M Pb m1 B1∧AG B W0 w'∧(∀b∈B1,b∈B∨W0.heap.size<=b)∧(ok=true->SimT (t++40::Lib.itoa x.n) a m1)∧(ok=false->TlS (rEnd 8 a,none) m1))) (λ_ _ _=>False)) ?_ ?_
 ·gi_region_with (first
   |(refine⟨trivial,?_⟩;gi_at_call 41;refine(callsIn_wide.2 (HIT.out _ hbd)).mono ?_;rintro e w5 ⟨rfl,HB5⟩;obtain⟨g0,g1⟩:=HGX.out w5 HB5.out;have HS5:=hid (HSY.out w5 HB5.out);clear HB5)
   |(refine⟨trivial,?_⟩;gi_at_call 168;refine(callsIn_wide.2 HS5.out).mono ?_;rintro e w6 ⟨rfl,HM6⟩))
  all_goals exact⟨rfl,HM6⟩
 ·intro e a' w1 hp;cases e with
  |normal=>
   obtain⟨rfl,HM6⟩:=hp;clear HIT HSY HGX d0d d1d hbd;obtain⟨m1,B1,hM1,hA1,hB1,hok1,hok0⟩:=HM6.out;obtain⟨k0,k4,k2,g2⟩:=HBOX.out _ hA1;have HM1:=hid hM1;have HA1:=hid hA1;have HB1:=hid hB1;clear HM6 hM1 hA1 hB1;cases ok with
   |false=>
    have HR0:=hid (HRO.out.2 rfl);have HS0:=hid (hok0 rfl);have HRR:Hid (TlR lo M Pb B w R (.returned (.bool false)) (w1.setCell ⟨w.heap.size+1+1,0,none⟩ (.bool false))):=by
     have hnb:w.heap.size+1+1∉B1:=λhm=>(HB1.out _ hm).elim (λh1=>by have:=HLB.out _ h1;omega) λh1=>by have:=HZ0.out;omega
     have hA:=HA1.out;have h1:=HFIN.out (w1.setCell ⟨w.heap.size+1+1,0,none⟩ (.bool false)) m1 B1 (HM1.out.setBox hnb (by have:=HLOW.out.1;omega) k2 false) (AG.set ⟨hA.os,hA.tape,hA.output,hA.size,λj hj hm=>hA.block j hj λh=>hm (List.mem_cons_of_mem _ h)⟩ (Or.inl (List.mem_cons_self ..)) _) HB1.out (by rw[HR0.out];exact HS0.out);rw[HR0.out]at h1 ⊢;exact h1
    have k2s:(w1.setCell ⟨w.heap.size+1+1,0,none⟩ (.bool false)).cell? ⟨w.heap.size+1+1,0,none⟩=some (.bool false):=World.cell?_setCell_same _ _ _ k2;clear hok1 hok0;gi_wp2
    exact⟨.bool false,by simp[results,Tryz.results169,go_sem,k2s],HRR.out⟩
   |true=>
    have HS1:=hid (hok1 rfl);obtain⟨hRt,htl⟩:=HRO.out.1 rfl;clear hok1 hok0;obtain⟨hMm,hsm,hwm,hgm,hckm,hfxm⟩:=HMAIN.out;obtain⟨pp,cap,hpe,hcs⟩:=id hfxm;cases hpe;obtain⟨W2,hW2⟩:∃W2,w1.alloc (Obj.cells #[Value.slice p x.fields.length c] 243)=W2:=⟨_,rfl⟩;have hz2:W2.heap.size=w1.heap.size+1:=by rw[<-hW2];simp
    have hb2:Below w1.heap.size w1 W2:=by rw[<-hW2];exact(Below.refl _ _).alloc (Nat.le_refl _) _
    have d3:W2.cell? ⟨w1.heap.size,0,none⟩=some (.slice p x.fields.length c):=by rw[<-hW2];exact(Boxed.new w1 243 (.slice p x.fields.length c)).cell
    have hzw:=HA1.out.size;have hz0:=HZ0.out;have hM1z:∀b∈B1,b<w1.heap.size:=by
     obtain⟨cs,ds,cv,sv,kv,dv,tv,h,rfl⟩:=HM1.out;exact λb hb=>(h.rg b hb).2
    have hM1l:=HM1.out.lows;have hnB1:∀b,b<W0.heap.size->b∉B->b∉B1:=λb h1 h2 hm=>(HB1.out b hm).elim h2 λh3=>by omega
    have hRef:RefAt W2 p x.fields:=λj hj=>by
     obtain⟨b,o,⟨-,hb⟩,e,hcell⟩:=hcs j hj;have hbw:b<w.heap.size:=block_lt_of_cell hcell;refine⟨b,o,e,?_⟩;rw[List.getElem?_eq_getElem hj];refine cell_keep hb2 (cell_same (HA1.out.block b (by omega) hb) (cell_keep HB0.out hcell))
    have hX:∀q∈w1.heap.size::fB p x.fields.length,q<W2.heap.size∧q∉B1:=λq hq=>by
     rcases List.mem_cons.1 hq with rfl|hq
     ·exact⟨by omega,λhm=>by have:=hM1z _ hm;omega⟩
     ·cases hxf:x.fields with
      |nil=>rw[hxf]at hq;cases p<;>cases hq
      |cons z zs=>
       obtain⟨b,o,⟨-,hb⟩,e,hcell⟩:=hcs 0 (by rw[hxf];simp);have hbw:b<w.heap.size:=block_lt_of_cell hcell;rw[hxf,e]at hq;have e1:q=b:=List.mem_singleton.1 hq;subst e1;exact⟨by omega,hnB1 q (by omega) hb⟩
    have hAW:∀X,AG B1 W2 X->AG B W0 X:=λX hX=>(HA1.out.then hb2).trans hX HB1.out;have hBX:∀X,AG B1 W2 X->RcB M w.heap.size (w.heap.size+1+1) X:=λX hX=>by
     obtain⟨q0,-,q2,q3⟩:=HBOX.out X (hAW X hX);exact⟨q0,q2,q3⟩
    have hs2:lo<=w.heap.size+1+1∧w.heap.size+1+1<W2.heap.size∧w.heap.size+1+1∉B1:=⟨by have:=HLOW.out.1;omega,by omega,hnB1 _ (by omega) λhm=>by have:=HLB.out _ hm;omega⟩;have hlo2:lo<=W2.heap.size∧∀b∈B1,lo<=b:=⟨by have:=hM1l.1;omega,hM1l.2⟩;have hg2:TlG lo Pb gs D gp gc G W2:=hgm.low ((HB0.out.mono HLOW.out.1).trans ((HA1.out.low HLOW.out.2 (by have:=HLOW.out.1;omega)).trans (hb2.mono hM1l.1)));have hfr:∀f∈x.fields,0<=f∧f<(a.cells.length:Int):=hckm.f;have hlen1:(t++40::Lib.itoa x.n).length=t.length+(40::Lib.itoa x.n).length:=List.length_append;have hlen2:(40::Lib.itoa x.n).length=(Lib.itoa x.n).length+1:=rfl;have hflen:=hckm.fl;obtain⟨t0,ht0⟩:∃t0,t++40::Lib.itoa x.n=t0:=⟨_,rfl⟩;rw[ht0]at hRt hlen1 HS1;have hI0:RcI lo M Pb B1 W2 gs a t0 [] W2:=⟨a,t0,m1,B1,tEnd_nil a t0,HS1.out,HM1.out.keep hb2,AG.refl _ _,λb hb=>Or.inl hb⟩;have hTk:TelC lo M Pb gs D gp gc G (n-1):=HTT.out (n-1) (by have:=HN.out;omega);have hnk:2000<=t0.length+1+(n-1):=by have:=HN.out;omega
    have htk:t0.length<=2000:=by omega
    have HBD:Hid (∀l W f,(∀f∈l,f∈x.fields)->f∈x.fields->RcI lo M Pb B1 W2 gs a t0 l W->_):=λl W f h1 h2 h3=>rec_body (l:=l) (f:=f) (s0:=w.heap.size) (s2:=w.heap.size+1+1) (k:=n-1) hg2 hlo2 hwm (λf hf=>hfr f (h1 f hf)) (hfr f h2) hTk hnk htk h3 hs2 hBX;have HLST:=hid (rec_last (t:=t0) hgm.g hwm (l:=x.fields.reverse) (λf hf=>hfr f (List.mem_reverse.1 hf)));have HCUT:=hid (λ(l r:List Int) (e:l++r=x.fields.reverse) (a1:ASt) (h:tEnd gs (tFl l) a t0=(a1,none))=>rec_cut (r:=r) hgm.g hwm (λf hf=>hfr f (List.mem_reverse.1 (by rw[<-e];exact hf))) h);have HX:=hid hX;have HI0:=hid hI0;have HAW:=hid hAW;have HBX:=hid hBX;have HS2:=hid hs2;have HLO2:=hid hlo2;have HRT:=hid hRt;have HM1L:=hid hM1l;have HT0:=hid htk;clear hMm hsm hwm hgm hckm hfxm hcs hM1z hM1l hnB1 hX hI0 hTk hnk htk hfr hAW hBX hs2 hlo2 hg2 htl hlen1 hlen2 hRt ht0;gi_wp2_with (first
     |(refine⟨trivial,?_⟩;gi_at_call 228;refine(bwR_in Fence.wide _ trivial rfl _ _ _ _).mono ?_;rintro e w9 ⟨rfl,rfl⟩))
    (try rw[hW2])
    clear hW2;refine wpIn_rangeFunc_ownH (F:=Fence.wide) rfl (by omega) (gf:=290) (lb:=#[.pointer (some ⟨w1.heap.size,0,none⟩)]) rfl trivial (enters_of Tryz.func290 (by kernel_rfl) rfl)
     (bwR_stops Fence.wide _ trivial rfl (by omega) w1.heap.size p c x.fields (by omega) W2 (by omega) d3 hRef) KpX.trans (KpX.put (λq hq=>(HX.out q hq).1)) (Below.refl _ _) (λ_=>rfl)
     (λ(pre:List (BwE x.fields)) W=>RcI lo M Pb B1 W2 gs a t0 (bwV pre) W)
     (λc (pre:List (BwE x.fields)) W=>c=.ret∧RcX lo M Pb (w.heap.size+1+1) B1 W2 gs a t0 (bwV pre) W)
     (λs X Y row hs hg hr=>hs.turn HLO2.out.1 hg hr)
     (λc s X Y row hs hg hr=>⟨hs.1,hs.2.turn HLO2.out.1 hg hr⟩)
     HI0.out
     (λy a' W=>a'={tmps:=#[.pointer (some ⟨M,0,none⟩),.agg #[.int .u8 3,.int .i64 x.n,.int .i32 x.left,.int .i32 x.right,.slice p x.fields.length c],.pointer (some ⟨w.heap.size,0,none⟩),.pointer (some ⟨w.heap.size+1,0,none⟩),.pointer (some ⟨w.heap.size+1+1,0,none⟩),undef,.int .i32 y.1.2,.pointer (some ⟨M,0,none⟩),.pointer (some ⟨w.heap.size+1,1,none⟩),.int .i64 x.n,.string ⟨(Lib.itoa x.n).toArray⟩,.string (⟨#[40]⟩++⟨(Lib.itoa x.n).toArray⟩),.bool true,.bool false,.pointer (some ⟨w.heap.size+1,4,none⟩),.slice p x.fields.length c,.func (.func 290) #[] #[.pointer (some ⟨w1.heap.size,0,none⟩)],.int .i64 (y.1.1:Int),.int .i32 y.1.2,undef,undef,undef,undef,undef,undef,undef,undef,undef,undef,undef],defers:=[]})
     (λy a' s X Y row hs hg hr=>hs)
     ?assign ?body ?done ?stop
    case assign=>
     rintro l pre y W K' hi hK';gi_wp2
     exact hK' _ _ (KeepsFrom.refl _ _) (KpX.refl _ _) hi rfl
    case body=>
     rintro l pre y a' W hl2 hr hi rfl hlt;have hmem:∀f∈bwV pre,f∈x.fields:=λf hf=>by
      obtain⟨z,-,rfl⟩:=List.mem_map.1 hf;exact z.2
     have hap:bwV (pre++[y])=bwV pre++[y.1.2]:=by unfold bwV;rw[List.map_append];rfl
     have HKP:Hid (∀X,(W.heap.size<=X.heap.size∧∀q,q<W2.heap.size->q∉B1->X.heap[q]?=W.heap[q]?)->KpX (w1.heap.size::fB p x.fields.length) W X):=λX h1=>⟨h1.1,λq hq=>h1.2 q (HX.out q hq).1 (HX.out q hq).2⟩;obtain⟨j0,j2,j3⟩:RcB M w.heap.size (w.heap.size+1+1) W:=by
      obtain⟨-,-,-,-,-,-,-,hA,-⟩:=hi;exact HBX.out W hA
     have HRB:=hid (HBD.out _ W y.1.2 hmem y.2 hi);rw[<-hap]at HRB;clear hi hmem hap;rcases HRB.out with hc1|hc2|hc3
     ·have HC:=hid hc1;clear hc1 HRB;gi_wp2_with (first
       |(refine⟨trivial,?_⟩;gi_at_call 168;refine(CallsIn.inRound l (callsIn_wide.2 HC.out)).mono ?_;rintro e w5 ⟨rfl,⟨i0,i2,i3⟩,HE5⟩)
       |(refine⟨trivial,?_⟩))
      exact⟨HE5.out.1,rfl,HE5.out.2⟩
     ·have HC:=hid hc2;clear hc2 HRB;gi_wp2_with (first
       |(refine⟨trivial,?_⟩;gi_at_call 168;refine(CallsIn.inRound l (callsIn_wide.2 HC.out)).mono ?_;rintro e w5 ⟨rfl,⟨i0,i2,i3⟩,HT5⟩)
       |(refine⟨trivial,?_⟩;gi_at_call 113;refine(CallsIn.inRound l (callsIn_wide.2 HT5.out)).mono ?_;rintro e w6 ⟨rfl,⟨o0,o2,o3⟩,HE5⟩))
      exact⟨HE5.out.1,rfl,HE5.out.2⟩
     ·have HC:=hid hc3;clear hc3 HRB;gi_wp2_with (first
       |(refine⟨trivial,?_⟩;gi_at_call 168;refine(CallsIn.inRound l (callsIn_wide.2 HC.out)).mono ?_;rintro e w5 ⟨rfl,⟨i0,i2,i3⟩,HT5⟩)
       |(refine⟨trivial,?_⟩;gi_at_call 113;refine(CallsIn.inRound l (callsIn_wide.2 HT5.out)).mono ?_;rintro e w6 ⟨rfl,HN5⟩))
      exact⟨HN5.out.1,HKP.out _ HN5.out.2.1,HN5.out.2.2⟩
    case done=>
     rintro D ys W hD hys ⟨a1,t1,m2,B2,hE,hs2,hM2,hA2,hB2⟩ hK;have hrev:bwV ys=x.fields.reverse:=by
      have e:=bwd_rev x.fields 0 (Nat.le_refl _);rw[<-hys,List.map_map]at e;rw[show x.fields.reverse.take x.fields.length=x.fields.reverse by rw[<-List.length_reverse,List.take_length]]at e;exact e
     rw[hrev]at hE;obtain⟨hw1,hRl⟩:=HLST.out.1 a1 t1 hE;rw[<-HRT.out]at hRl;obtain⟨hl1,hl2⟩:=tEnd_len hE;have hsay:=say_both hM2 hs2 hw1.live ⟨#[41]⟩ (by show(1:Nat)<=_;omega) (hl2 HT0.out);have e41:(⟨#[41]⟩:ByteArray).data.toList=[41]:=rfl;rw[e41,<-hRl]at hsay;obtain⟨j0,j2,j3⟩:=HBX.out W hA2;obtain⟨rb,hrb⟩:∃rb,R.2.isSome=rb:=⟨_,rfl⟩;have HSY:Hid (Calls Tryz.prog 168 #[.pointer (some ⟨M,0,none⟩),.string ⟨#[41]⟩] W λe w5=>e=.returned (.bool rb)∧RcB M w.heap.size (w.heap.size+1+1) w5∧Hid ((w5.setCell ⟨w.heap.size+1+1,0,none⟩ (.bool rb)).heap[D]?=some (.deferred (some []))∧((w5.setCell ⟨w.heap.size+1+1,0,none⟩ (.bool rb)).putObj D (.deferred none)).cell? ⟨w.heap.size+1+1,0,none⟩=some (.bool rb)∧TlR lo M Pb B w R (.returned (.bool rb)) ((w5.setCell ⟨w.heap.size+1+1,0,none⟩ (.bool rb)).putObj D (.deferred none)))):=by
      refine hsay.mono λe w5 hr=>?_;obtain⟨m5,hs5,he,hA5,B5,hM5,hB5⟩:=hr;have hA25:=hA2.trans hA5 hB2;have hB5':∀b∈B5,b∈B1∨W2.heap.size<=b:=λb hb=>(hB5 b hb).elim (hB2 b) λh1=>Or.inr (Nat.le_trans hA2.size h1);obtain⟨q0,q2,q3⟩:=HBX.out w5 hA25;have hs:=HS2.out;have hsB5:w.heap.size+1+1∉B5:=λhm=>(hB5' _ hm).elim hs.2.2 λh1=>by omega
      have hD5:w5.heap[D]?=some (.deferred (some [])):=(hM2.keeps hA5 0).same D _ (Nat.zero_le _) hK rfl;have hD6:(w5.setCell ⟨w.heap.size+1+1,0,none⟩ (.bool rb)).heap[D]?=some (.deferred (some [])):=by rw[Below.heap_setCell _ _ _ _ (show D≠w.heap.size+1+1 by omega)];exact hD5
      have hr:∀r,some D=some r->∃o:Obj,(w5.setCell ⟨w.heap.size+1+1,0,none⟩ (.bool rb)).heap[r]?=some o∧o.isCells=false:=λr e=>by cases e;exact⟨_,hD6,rfl⟩
      have hM6:=(hM5.setBox hsB5 hs.1 q2 rb).turn (grownBy_putObj' _ D (.deferred none)) (λr e=>⟨by cases e;have:=HLO2.out.1;omega,hr r e⟩);have hA0:=HAW.out w5 hA25;have hA6:AG ((w.heap.size+1+1)::B) W0 ((w5.setCell ⟨w.heap.size+1+1,0,none⟩ (.bool rb)).putObj D (.deferred none)):=(AG.set ⟨hA0.os,hA0.tape,hA0.output,hA0.size,λj hj hm=>hA0.block j hj λh=>hm (List.mem_cons_of_mem _ h)⟩ (Or.inl (List.mem_cons_self ..)) _).turn (grownBy_putObj' _ D (.deferred none)) (λr e=>by cases e;omega);have h1:=HFIN.out _ m5 B5 hM6 hA6 (λb hb=>(hB5' b hb).elim (HB1.out b) λh1=>Or.inr (by omega)) hs5;rw[hrb]at he h1;exact⟨he,⟨q0,q2,q3⟩,hD6,cell_kept (World.cell?_setCell_same _ _ _ q2) (grownBy_putObj' _ D _) hr,h1⟩
     clear hsay hM2 hA2 hB2 hE hs2 hw1 hRl hl1 hl2 hrev hys hK;gi_wp2_with (first
      |(refine⟨trivial,?_⟩;gi_at_call 168;refine(callsIn_wide.2 HSY.out).mono ?_;rintro e w5 ⟨rfl,⟨i0,i2,i3⟩,HF5⟩))
     refine⟨by simp,.inl ⟨_,_,rfl,run_takeDeferred HF5.out.1,?_⟩⟩;have kf:=HF5.out.2.1;exact⟨.bool rb,by simp[results,Tryz.results169,go_sem,kf],HF5.out.2.2⟩
    case stop=>
     rintro D c pre W hD ⟨k,hk,hpre⟩ ⟨rfl,a1,m2,B2,hE,hs2,hM2,hA2,hB2,hc2⟩ hK;have hrev:bwV pre=x.fields.reverse.take k:=by
      have e:=bwd_rev x.fields 0 hk;rw[<-hpre,List.map_map]at e;exact e
     have hRn:R=(a1,none):=by
      rw[HRT.out];refine HLST.out.2 a1 ?_;have:=HCUT.out (bwV pre) (x.fields.reverse.drop k) (by rw[hrev];exact List.take_append_drop _ _) a1 hE;rw[hrev,List.take_append_drop]at this;exact this
     have HF:Hid (((W.putObj D (.deferred none)).cell? ⟨w.heap.size+1+1,0,none⟩=some (.bool false))∧TlR lo M Pb B w R (.returned (.bool false)) (W.putObj D (.deferred none))):=by
      have hr:∀r,some D=some r->∃o:Obj,W.heap[r]?=some o∧o.isCells=false:=λr e=>by cases e;exact⟨_,hK,rfl⟩
      refine⟨cell_kept hc2 (grownBy_putObj' _ D _) hr,?_⟩;have hA0:AG ((w.heap.size+1+1)::B) W0 W:=by
       have h1:=HA1.out.then hb2;refine AG.trans (X:=(w.heap.size+1+1)::B) (Y:=(w.heap.size+1+1)::B1) ⟨h1.os,h1.tape,h1.output,h1.size,λj hj hm=>h1.block j hj λh=>hm (List.mem_cons_of_mem _ h)⟩ hA2 λb hb=>?_;rcases List.mem_cons.1 hb with rfl|hb
       ·exact Or.inl (List.mem_cons_self ..)
       ·exact(HB1.out b hb).imp (List.mem_cons_of_mem _) id
      have h1:=HFIN.out _ m2 B2 (hM2.turn (grownBy_putObj' _ D (.deferred none)) (λr e=>⟨by cases e;have:=HLO2.out.1;omega,hr r e⟩)) (hA0.turn (grownBy_putObj' _ D (.deferred none)) (λr e=>by cases e;omega)) (λb hb=>(hB2 b hb).elim (HB1.out b) λh1=>Or.inr (by omega)) (by rw[hRn];exact hs2);rw[hRn]at h1 ⊢;exact h1
     have HK:=hid hK;clear hM2 hA2 hB2 hE hs2 hrev hpre hK hRn hc2;gi_wp2
     refine⟨by simp,.inl ⟨_,_,rfl,run_takeDeferred HK.out,?_⟩⟩;have kf:=HF.out.1;exact⟨.bool false,by simp[results,Tryz.results169,go_sem,kf],HF.out.2⟩
  |ret=>exact hp.elim
  |exit id=>exact hp.elim
  |goto t=>exact hp.elim
  |panic ch=>exact hp.elim
  |outgrown=>exact hp.elim
theorem tells(n:Nat):TelC lo M Pb gs D gp gc G n:=by
 induction n using Nat.strongRecOn with
 |_ n ih=>exact tell_any (rec_any ih)
end
end Go.Proofs.YtdpodpjdcfjfgaaGreatDoor
namespace Go.Proofs.YtdpodpjdcfjfgaaGreatDoor
open Go.RowKit Go.Sort
section
variable {gs:List LGlob} {a b:ASt}
def KZ(a:ASt):Prop:=(a.ended=true->a.kind≠0)∧(a.ended=false->a.kind=0)
theorem rEnd_kz{k:Int}(hk:k≠0)(h:KZ a):KZ (rEnd k a):=by
 unfold rEnd;split
 ·exact h
 ·exact⟨λ_=>hk,λe=>by cases e⟩
theorem rRoomS_kz(n:Int)(h:KZ a):KZ (rRoomS n a):=by
 unfold rRoomS;exact ite_P (P:=KZ) h (rEnd_kz (by decide) h)
theorem rMakeN_kz(n:Nat)(h:KZ a):KZ (rMakeN n a):=by
 induction n with
 |zero=>exact h
 |succ n ih=>exact ih
theorem rSplit_kz(n:Int)(h:KZ a):KZ (rSplit n a):=by
 unfold rSplit;exact ite_P (P:=KZ) (rEnd_kz (by decide) h) h
theorem rFork_kz(l:List LAlt)(h:KZ a):KZ (rFork l a):=by
 unfold rFork;refine ite_P (P:=KZ) (rEnd_kz (by decide) h) ?_;cases l.find? _ with
 |none=>exact rEnd_kz (by decide) h
 |some a=>exact h
theorem rMakeR_kz(x:MCl)(h:KZ a):KZ (rMake x a):=h
theorem rStk_kz(s:List Int)(h:KZ a):KZ (rStk s a):=h
theorem rDoes_kz(i:LIns)(h:KZ a):KZ (rDoes i a):=by
 unfold rDoes rReck;repeat' (first|exact rEnd_kz (by decide) h|exact rSplit_kz _ h|exact rFork_kz _ h|exact rMakeR_kz _ (rStk_kz _ (rRoomS_kz _ h))|exact rMakeR_kz _ (rRoomS_kz _ h)|exact rMakeN_kz _ (rRoomS_kz _ h)|refine ite_P (P:=KZ) ?_ ?_|exact h)
theorem rStepS_kz(h:KZ a):KZ (rStepS a):=by
 unfold rStepS;exact ite_P (P:=KZ) (rEnd_kz (by decide) h) (ite_P (P:=KZ) h h)
theorem rVal_kz(v:Int)(h:KZ a):KZ (rVal v a).1:=by unfold rVal;split<;>exact h
theorem rEnter_kz(g:Int)(h:KZ a):KZ (rEnter gs g a):=by
 unfold rEnter;exact ite_P (P:=KZ) h (rEnd_kz (by decide) h)
theorem aLook_kz:∀(n:Nat) (st:ASt),KZ st->KZ (aLook gs n st).1
 |0,st,h=>rStepS_kz h
 |n+1,st,h=>by
  rw[aLook];simp only;have h1:KZ {st with steps:=st.steps+1}:=h;split
  ·split
   ·exact aLook_kz n _ h1
   ·split
    ·exact aLook_kz n _ h1
    ·split
     ·exact rEnd_kz (by decide) h1
     ·split
      ·split
       ·exact rEnter_kz _ h1
       ·exact rVal_kz _ h1
      ·split
       ·exact rEnd_kz (by decide) h1
       ·exact rVal_kz _ h1
  ·exact rStepS_kz h
theorem aDo_kz(st:ASt)(h:KZ st):KZ (aDo gs st).1:=by
 unfold aDo;split
 ·have h1:KZ (rNext st):=h;simp only;split
  ·exact aLook_kz _ _ h1
  ·split
   ·exact aLook_kz _ (rEval (rNext st)) h1
   ·exact rDoes_kz _ h1
 ·exact rStepS_kz h
theorem aGo_kz:∀(n:Nat) (r:AR),KZ r.1->KZ (aGo gs n r).1
 |0,_,h=>h
 |n+1,(st,none),h=>by
  rw[aGo];split
  ·exact h
  ·exact aGo_kz n _ (aDo_kz st h)
 |n+1,(st,some v),h=>h
theorem aWork_kz(c:Int)(h:KZ a):KZ (aWork gs c a).1:=aGo_kz _ _ (aLook_kz _ (aBegin c a) h)
theorem tVal_kz(c:Int)(h:KZ a):KZ (tVal gs c a).1:=by
 have h1:=aWork_kz (gs:=gs) c h;unfold tVal;simp only;split
 ·exact h1
 ·exact rStepS_kz h1
theorem tTodo_kz:∀(n:Nat) (L:List TD) (a:ASt) (t:List UInt8),KZ a->KZ (tTodo gs n L a t).1
 |n,[],a,t,h=>by cases n<;>exact h
 |0,_::_,a,_,h=>h
 |n+1,(s,c)::L,a,t,h=>by
  rw[tTodo];have hsay:∀(s:List UInt8) (b:ASt) (L':List TD),KZ b->KZ (tSay s b t (λt'=>tTodo gs n L' b t')).1:=λs b L' hb=>by
   unfold tSay;split
   ·exact tTodo_kz n L' b _ hb
   ·exact rEnd_kz (by decide) hb
  split
  ·have hv:=tVal_kz (gs:=gs) c h;split
   ·rename_i a1 x e
    rw[e]at hv;exact hsay _ _ _ hv
   ·rename_i a1 e
    rw[e]at hv;exact hv
  ·exact hsay _ _ _ h
theorem tEnd_kz(L:List TD)(t:List UInt8)(h:KZ a):KZ (tEnd gs L a t).1:=tTodo_kz _ L a t h
end
theorem wpList_app{P:Program}{w:World}{ops:Array Oper}{rest:List Oper}{o:Oper}{a:Act}{Q:Exit->Act->World->Prop}(hgd:o.guard=none)(s x:Operand)(t:TypeId)
 (ho:o.op=.call {callee:=.builtin .append,args:=#[s,x],argTypes:=#[t,t]})
 (base:Nat) (e:TypeId) (i:TypeInfo) (z:Value) (size bytes:Nat) (ht:P.underlying t=some (.slice e)) (hi:P.info? e=some i) (hz:i.zero=some z)
 (hsize:i.size=size) (hby:i.bytes=bytes) (hzs:z.cells.size=size) (hsz:0<size)
 (v:Value) (n:Nat) (xs:List Value) (hs:a.eval s=v) (hown:w.ownsRow base e size v n xs)
 (ad:Addr) (m c:Nat) (news:List Value) (hx:a.eval x=.slice (some ad) m c) (hl:news.length=m*size) (hnews:∀j u,news[j]?=some u->w.cell? (ad.add j)=some u) (h1:∀u∈news,u.oneCell'=true)
 (h63:n+m<=maxLen) (hbytes:(n+m)*bytes<=140737488355328) (hbase:base<=w.heap.size)
 (h:∀p cap w',w'.ownsRow base e size (.slice p (n+m) cap) (n+m) (xs++news)->w.grownBy w' v.ownBlock->((Value.slice p (n+m) cap).ownBlock=v.ownBlock∨(Value.slice p (n+m) cap).ownBlock=some w.heap.size)->wpList P ops Q rest (a.put o.dst (.slice p (n+m) cap)) w'):
 wpList P ops Q (o::rest) a w:=by
 refine wpList_plain hgd λK hK=>?_;obtain⟨v',w',hr,h2,h3,_,h5⟩:=run_append_own_at (P:=P) w base t o.type e i z size bytes ht hi hz hsize hby hzs hsz v n xs hown ad m c news hl hnews h1 h63 hbytes hbase;obtain⟨p,cap,rfl⟩:=row_slice h2;unfold Oper.wp execOp;simp only[ho,resolve,invoke,builtin,Sem.run_bind,Sem.run_pure,Result.andThen_ok,List.map_toArray,List.map_cons,List.map_nil,hs,hx,hr];exact hK _ _ (h p cap w' h2 h3 h5)
end Go.Proofs.YtdpodpjdcfjfgaaGreatDoor
