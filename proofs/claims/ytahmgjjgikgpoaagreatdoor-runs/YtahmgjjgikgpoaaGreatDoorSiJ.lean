import Derived.Test.YtahmgjjgikgpoaaGreatDoorTfJ
import Derived.RangeFuncNested
import Derived.RangeFuncBound
import Derived.RangeFuncCalls
import Derived.RangeFuncLeaves
import Derived.Shelf.RegionOpen
import Derived.Shelf.Abstract
import Derived.OwnWalkIn
import Derived.TacticsInMore
import Derived.LoopNIn
import Derived.LoopIn
import Derived.Test.YtahmgjjgikgpoaaGreatDoorApJ
set_option maxRecDepth 100000
set_option maxHeartbeats 4000000
namespace Go.Proofs.YtahmgjjgikgpoaaGreatDoor
open Go.RowKit Go.Sort Go.Shelf
attribute [local go_sem] Oper.semAt_some
def KpX(X:List Nat)(W W':World):Prop:=W.heap.size<=W'.heap.size∧∀k∈X,W'.heap[k]?=W.heap[k]?
theorem KpX.trans{X:List Nat}{A B C:World}(h:KpX X A B)(k:KpX X B C):KpX X A C:=⟨Nat.le_trans h.1 k.1,λb hb=>(k.2 b hb).trans (h.2 b hb)⟩
theorem KpX.refl(X:List Nat)(A:World):KpX X A A:=⟨Nat.le_refl _,λ_ _=>rfl⟩
theorem KpX.cell{X:List Nat}{A B:World}(h:KpX X A B){b:Nat}(hb:b∈X)(j:Nat):B.cell? ⟨b,j,none⟩=A.cell? ⟨b,j,none⟩:=World.cell?_of_block (a:=⟨b,j,none⟩) (h.2 b hb)
def bwd{α:Type}(zs:List α)(d:α)(k:Nat):List (Nat×α):=(List.range k).map λj=>(zs.length-1-j,zs[zs.length-1-j]?.getD d)
theorem bwd_succ{α:Type}(zs:List α)(d:α)(k:Nat):bwd zs d (k+1)=bwd zs d k++[(zs.length-1-k,zs[zs.length-1-k]?.getD d)]:=by simp[bwd,List.range_succ]
theorem bwd_length{α:Type}(zs:List α)(d:α)(k:Nat):(bwd zs d k).length=k:=by simp[bwd]
abbrev BwE(zs:List Int):Type:={x:Nat×Int // x.2∈zs}
theorem getD_mem{zs:List Int}{m:Nat}(h:m<zs.length):zs[m]?.getD 0∈zs:=by
 rw[List.getElem?_eq_getElem h];exact List.getElem_mem h
theorem bwR1_in(F:Fence)(n:Nat)(h7:F.fn 113)(hro:F.round=none)(hn:1<=n)(l Bs b off cap:Nat)(zs:List Int)(hl:zs.length<=1000000)(J Jx:List (BwE zs)->World->Prop)
 (hY:∀pre (x:BwE zs) W,J pre W->pre.length<zs.length->YieldAt F (n-1) Tryz.prog l #[.int .i64 (x.1.1:Int),.int .i32 x.1.2] W λe W'=>
  (e=.returned (.bool true)∧J (pre++[x]) W'∧KpX [Bs,b] W W')∨(e=.returned (.bool false)∧Jx (pre++[x]) W'))
 (W:World) (hBs:W.cell? ⟨Bs,0,none⟩=some (.slice (some ⟨b,off,none⟩) zs.length cap)) (hc:∀j,j<zs.length->W.cell? ⟨b,off+j,none⟩=some (.int .i32 (zs[j]?.getD 0))) (h0:J [] W):
 CallsIn F n Tryz.prog 113 #[.func (.yield l) #[] #[],.pointer (some ⟨Bs,0,none⟩)] W λe W'=>(∃v,e=.returned v)∧
  ((∃pre:List (BwE zs),pre.map (·.1)=bwd zs 0 zs.length∧J pre W')∨(∃k,∃pre:List (BwE zs),k<=zs.length∧pre.map (·.1)=bwd zs 0 k∧Jx pre W')):=by
 refine callsIn_of_wp Tryz.func113 rfl h7 ?_ hro;simp only[Tryz.ntmps113,List.size_toArray,List.length_cons,List.length_nil,Nat.reduceAdd,Nat.reduceSub,Array.replicate_succ,Array.replicate_zero,List.push_toArray,List.append_toArray,List.nil_append,List.cons_append];gi_wp2
 gi_loopw [3] (λi wr=>∃k:Nat,k<=zs.length∧i=.int .i64 ((zs.length:Int)-1-(k:Int))∧(∃pre:List (BwE zs),pre.map (·.1)=bwd zs 0 k∧J pre wr)∧KpX [Bs,b] W wr)
  (λi _=>(intOf i+1).toNat)
 case atStart=>exact⟨0,Nat.zero_le _,by simp,⟨[],rfl,h0⟩,KpX.refl _ _⟩
 case round=>
  obtain⟨k,hk,rfl,⟨pre,hpre,hJs⟩,hnx⟩:=hrel;have hBs':=(hnx.cell (b:=Bs) (by simp) 0).trans hBs;by_cases hlt:k<zs.length
  ·obtain⟨m,hm⟩:∃m,m=zs.length-1-k:=⟨_,rfl⟩;have hmi:(zs.length:Int)-1-(k:Int)=(m:Int):=by omega
   have hml:m<zs.length:=by omega
   have h2:(0:Int)<=(m:Int):=by omega
   have h3:(m:Int)<(zs.length:Int):=by omega
   have c0:=hc m hml;have c0':=(hnx.cell (b:=b) (by simp) _).trans c0;have hpl:pre.length=k:=by rw[<-bwd_length zs 0 k,<-hpre,List.length_map]
   have hmem:=getD_mem hml;obtain⟨q,hx⟩:∃x,zs[m]?.getD 0=x:=⟨_,rfl⟩;rw[hx]at c0' hmem;obtain⟨fn,tmps,assign,body,hy,hR⟩:=hY pre ⟨(m,q),hmem⟩ wr hJs (by rw[hpl];exact hlt);dsimp only at hy;have HX:=hid hx;have HPR:=hid hpre;clear hx c0 hc hpre;rw[hmi];have HMM:=hid hm;have HMI:=hid hmi;clear hm hmi;gi_wp2
   refine hR.mono ?_;rintro e W3 (⟨rfl,hJ3,hk3⟩|⟨rfl,hJx3⟩)
   ·gi_wp2
    go_roundw
    case rel=>exact⟨k+1,by omega,by have:=HMI.out;simp;omega,⟨_,by rw[bwd_succ,<-HMM.out,HX.out,List.map_append,HPR.out];rfl,hJ3⟩,hnx.trans hk3⟩
    case measure=>simp[intOf]
   ·gi_wp2
    refine bodyPost_ret (results_none rfl _ _ _) rfl ?_;exact⟨⟨_,rfl⟩,.inr ⟨k+1,_,by omega,by rw[bwd_succ,<-HMM.out,HX.out,List.map_append,HPR.out];rfl,hJx3⟩⟩
  ·obtain rfl:k=zs.length:=by omega
   have hneg:¬(0:Int)<=(zs.length:Int)-1-(zs.length:Int):=by omega
   gi_wp2
   go_end0
   exact⟨⟨_,rfl⟩,.inl ⟨pre,hpre,hJs⟩⟩
theorem bwR1_nil_in(F:Fence)(n:Nat)(h7:F.fn 113)(hro:F.round=none)(l Bs:Nat)(p:Option Addr)(c:Nat)(zs:List Int)(J:List (BwE zs)->World->Prop)(W:World)(hBs:W.cell? ⟨Bs,0,none⟩=some (.slice p 0 c))(h0:J [] W):
 CallsIn F n Tryz.prog 113 #[.func (.yield l) #[] #[],.pointer (some ⟨Bs,0,none⟩)] W λe W'=>(∃v,e=.returned v)∧J [] W':=by
 refine callsIn_of_wp Tryz.func113 rfl h7 ?_ hro;simp only[Tryz.ntmps113,List.size_toArray,List.length_cons,List.length_nil,Nat.reduceAdd,Nat.reduceSub,Array.replicate_succ,Array.replicate_zero,List.push_toArray,List.append_toArray,List.nil_append,List.cons_append];gi_wp2
 gi_loopw [3] (λi wr=>i=.int .i64 (-1)∧J [] wr) (λ_ _=>0)
 case atStart=>exact⟨rfl,h0⟩
 case round=>
  obtain⟨rfl,hJs⟩:=hrel;gi_wp2
  go_end0
  exact⟨⟨_,rfl⟩,hJs⟩
theorem bwR_in(F:Fence)(n:Nat)(h5:F.fn 80)(hro:F.round=none)(a:Option Addr)(len cap:Nat)(w:World):
 CallsIn F n Tryz.prog 80 #[.slice a len cap] w λe w'=>e=.returned (.func (.func 113) #[] #[.pointer (some ⟨w.heap.size,0,none⟩)])∧w'=w.alloc (.cells #[.slice a len cap] 113):=by
 refine callsIn_of_wp Tryz.func80 rfl h5 ?_ hro;simp only[Tryz.ntmps80,List.size_toArray,List.length_cons,List.length_nil,Nat.reduceAdd,Nat.reduceSub,Array.replicate_succ,Array.replicate_zero,List.push_toArray,List.append_toArray,List.nil_append,List.cons_append];gi_wp2
 go_ret;exact⟨rfl,rfl⟩
def fB:Option Addr->Nat->List Nat
 |some a,_+1=>[a.block]
 |_,_=>[]
def RefAt(W:World)(p:Option Addr)(zs:List Int):Prop:=∀j,j<zs.length->∃b o,p=some ⟨b,o,none⟩∧W.cell? ⟨b,o+j,none⟩=some (.int .i32 (zs[j]?.getD 0))
theorem bwR_stops(F:Fence)(n:Nat)(h7:F.fn 113)(hro:F.round=none)(hn:1<=n)(Bs:Nat)(p:Option Addr)(cap:Nat)(zs:List Int)(hl:zs.length<=1000000)(w:World)(hBs:Bs<w.heap.size)
 (hc:w.cell? ⟨Bs,0,none⟩=some (.slice p zs.length cap)) (hI:RefAt w p zs):
 SeqStopsK F n Tryz.prog 113 #[.pointer (some ⟨Bs,0,none⟩)] (λx:BwE zs=>#[Value.int .i64 (x.1.1:Int),Value.int .i32 x.1.2]) (KpX (Bs::fB p zs.length)) (λys=>ys.map (·.1)=bwd zs 0 zs.length)
  (λpre=>∃k,k<=zs.length∧pre.map (·.1)=bwd zs 0 k) zs.length w:=λl J Jx W hW _ _ hY h0=>by
 have hc':=(hW.cell (p:=⟨Bs,0,none⟩) hBs).trans hc;cases zs with
 |nil=>exact(bwR1_nil_in F n h7 hro l Bs p cap [] J W hc' h0).mono λe W' ⟨he,hj⟩=>⟨he,.inl ⟨_,rfl,hj⟩⟩
 |cons z zs=>
  obtain⟨b,off,rfl,hb0⟩:=hI 0 (by simp);have hbl:b<w.heap.size:=block_lt_of_cell hb0;have hcs:∀j,j<(z::zs).length->w.cell? ⟨b,off+j,none⟩=some (.int .i32 ((z::zs)[j]?.getD 0)):=λj hj=>by
   obtain⟨b',o',e,h1⟩:=hI j hj;cases e;exact h1
  refine(bwR1_in F n h7 hro hn l Bs b off cap (z::zs) hl J Jx hY W hc' (λj hj=>(hW.cell (p:=⟨b,off+j,none⟩) hbl).trans (hcs j hj)) h0).mono ?_;rintro e W' ⟨he,⟨pre,hp,hj⟩|⟨k,pre,hk,hp,hj⟩⟩
  ·exact⟨he,.inl ⟨pre,hp,hj⟩⟩
  ·exact⟨he,.inr ⟨pre,⟨k,hk,hp⟩,hj⟩⟩
theorem KpX.alloc(X:List Nat)(W:World)(o:Obj)(hX:∀k∈X,k<W.heap.size):KpX X W (W.alloc o):=⟨by simp,λk hk=>Below.heap_alloc _ _ _ (hX k hk)⟩
theorem KpX.put{X:List Nat}{n0:Nat}(hX:∀k∈X,k<n0)(W:World)(l:Nat)(o o':Obj)(hl:n0<=l)(_:W.heap[l]?=some o)(_:o.isCells=false)(_:o.isWalk=false):KpX X W (W.putObj l o'):=
 ⟨by simp,λk hk=>World.putObj_heap_other (by have:=hX k hk;omega)⟩
theorem bwd_rev{α:Type}(l:List α)(d:α){k:Nat}(hk:k<=l.length):(bwd l d k).map (·.2)=l.reverse.take k:=by
 apply List.ext_getElem
 ·simp[bwd,hk]
 ·intro i h1 h2;have hi:i<k:=by simpa[bwd]using h1
  simp only[bwd,List.map_map,List.getElem_map,List.getElem_range,Function.comp,List.getElem_take,List.getElem_reverse];rw[List.getElem?_eq_getElem (by omega)];rfl
def isC(w:World)(b:Nat):Prop:=∃o:Obj,w.heap[b]?=some o∧o.isCells=true
theorem isC.of_row{w:World}{lo:Nat}{e:TypeId}{size n:Nat}{v:Value}{xs:List Value}(h:w.ownsRow lo e size v n xs){b:Nat}(hb:b∈vB v):isC w b:=by
 rcases h.2 with⟨rfl,-⟩|⟨g,cap,cur,rfl,-,hg,-⟩
 ·rw[vB_nil]at hb;cases hb
 ·rw[vB_slice]at hb;obtain rfl:=List.mem_singleton.1 hb;exact⟨_,hg,rfl⟩
theorem MM.cells{lo:Nat}{w:World}{M Pb:Nat}{st:MSt}{B:List Nat}(h:MM lo w M Pb st B):∀b∈B,isC w b:=by
 obtain⟨cs,ds,cv,sv,kv,dv,tv,h,rfl⟩:=h;intro b hb;rcases List.mem_cons.1 hb with rfl|hb
 ·exact cells_of_cell (h.m.at 0 rfl)
 rcases List.mem_append.1 hb with hb|hb
 ·exact .of_row h.cl hb
 rcases List.mem_append.1 hb with hb|hb
 ·exact .of_row h.sk hb
 rcases List.mem_append.1 hb with hb|hb
 ·exact .of_row h.dp hb
 ·exact .of_row h.tx hb
theorem FldX.frC{X:Nat->Prop}{w w':World}{v:Value}{l:List Int}(h:FldX X w v l)(hX:∀b,X b->isC w b->w'.heap[b]?=w.heap[b]?):FldX X w' v l:=by
 obtain⟨p,cap,e,hc⟩:=h;refine⟨p,cap,e,λi hi=>?_⟩;obtain⟨b,o,hx,e2,h0⟩:=hc i hi;exact⟨b,o,hx,e2,cell_same (hX b hx (cells_of_cell h0)) h0⟩
theorem MM.turn{lo:Nat}{w w':World}{M Pb:Nat}{st:MSt}{B:List Nat}(h:MM lo w M Pb st B){row:Option Nat}(hg:w.grownBy w' row)(hr:∀r,row=some r->lo<=r∧∃o:Obj,w.heap[r]?=some o∧o.isCells=false):MM lo w' M Pb st B:=by
 have hc:=h.cells;have hlz:=h.lows;have hne:∀b,isC w b->b<w.heap.size->w'.heap[b]?=w.heap[b]?:=λb hb hl=>hg.block b hl λe=>by
  obtain⟨o,ho,hoc⟩:=hb;obtain⟨-,o',ho',hc'⟩:=hr b e.symm;rw[ho]at ho';cases ho';rw[hoc]at hc';cases hc'
 have hlt:∀b,isC w b->b<w.heap.size:=λb hb=>by
  obtain⟨o,ho,-⟩:=hb;exact(Array.getElem?_eq_some_iff.1 ho).1
 have hbl:Below lo w w':=⟨hg.os,hg.tape,hg.output,hg.size,λk hk=>hg.block k (by omega) λe=>by have:=(hr k e.symm).1;omega⟩;obtain⟨cs,ds,cv,sv,kv,dv,tv,h,rfl⟩:=h;have hb:∀b∈mB M cv sv dv tv,w'.heap[b]?=w.heap[b]?:=λb hb=>hne b (hc b hb) (hlt b (hc b hb));have hfr:∀v,(∀b∈vB v,b∈vB cv++(vB sv++(vB dv++vB tv)))->Fr (vB v) w w':=λv hv b hm=>hb b (List.mem_cons_of_mem _ (hv b hm));exact⟨cs,ds,cv,sv,kv,dv,tv,⟨h.m.of_block (hb M (List.mem_cons_self ..)) hg.size,row_fr h.cl (hfr cv λb hb=>List.mem_append_left _ hb),λx hx=>(h.fl x hx).frC λb _ hi=>hne b hi (hlt b hi),row_fr h.sk (hfr sv λb hb=>List.mem_append_right _ (List.mem_append_left _ hb)),row_fr h.dp (hfr dv λb hb=>List.mem_append_right _ (List.mem_append_right _ (List.mem_append_left _ hb))),λx hx=>(h.dc x hx).fr hbl,h.cd.fr hbl,row_fr h.tx (hfr tv λb hb=>List.mem_append_right _ (List.mem_append_right _ (List.mem_append_right _ hb))),h.hcs,h.hds,h.nd,h.ml⟩,rfl⟩
theorem AG.turn{X:List Nat}{w w1 w2:World}(h:AG X w w1){row:Option Nat}(hg:w1.grownBy w2 row)(hr:∀r,row=some r->w.heap.size<=r):AG X w w2:=h.grown hg λb e=>Or.inr (hr b e)
theorem MM.keeps{lo:Nat}{w w':World}{M Pb:Nat}{st:MSt}{B:List Nat}(h:MM lo w M Pb st B)(hf:AG B w w')(B0:Nat):KeepsFrom B0 w w':=
 ⟨hf.size,λk o _ hk ho=>by
  rw[hf.block k (Array.getElem?_eq_some_iff.1 hk).1 (λhm=>?_)]
  ·exact hk
  ·obtain⟨o',ho',hc⟩:=h.cells k hm;rw[hk]at ho';cases ho';rw[ho]at hc;cases hc⟩
end Go.Proofs.YtahmgjjgikgpoaaGreatDoor
namespace Go.Proofs.YtahmgjjgikgpoaaGreatDoor
open Go.RowKit Go.Sort
structure ImR (lo:Nat) (w:World) (Ib:Nat) (gs:List LGlob) (v1:Value):Prop where
 i:∃w0:World,w0.heap.size=lo∧Below lo w0 w∧∃gv,w0.cell? ⟨Ib,0,none⟩=some gv∧w0.cell? ⟨Ib,1,none⟩=some v1∧GlobsAt w0 gv gs
theorem ImR.low{lo:Nat}{w w':World}{Ib:Nat}{gs:List LGlob}{v1:Value}(h:ImR lo w Ib gs v1)(hb:Below lo w w'):ImR lo w' Ib gs v1:=by
 obtain⟨w0,h1,h2,h3⟩:=h.i;exact⟨w0,h1,h2.trans hb,h3⟩
theorem ImR.at{lo:Nat}{w:World}{Ib:Nat}{gs:List LGlob}{v1:Value}(h:ImR lo w Ib gs v1):∃gp gc,w.cell? ⟨Ib,0,none⟩=some (.slice gp gs.length gc)∧GlobsAt w (.slice gp gs.length gc) gs:=by
 obtain⟨w0,h1,h2,gv,h3,-,h4⟩:=h.i;have hb:Below w0.heap.size w0 w:=by rw[h1];exact h2
 obtain⟨gp,gc,rfl,-⟩:=id h4;exact⟨gp,gc,cell_keep hb h3,h4.keep hb⟩
theorem ImR.glob{lo:Nat}{w:World}{Ib:Nat}{gs:List LGlob}{v1:Value}(h:ImR lo w Ib gs v1){g:Nat}(hg:g<gs.length):∃b o gc cv,w.cell? ⟨Ib,0,none⟩=some (.slice (some ⟨b,o,none⟩) gs.length gc)∧w.cell? ⟨b,o+g*4+1,none⟩=some (.int .i64 gs[g].arity)∧w.cell? ⟨b,o+g*4+3,none⟩=some cv∧CodeAt w cv gs[g].code:=by
 obtain⟨gp,gc,h0,p,cap,e,-,hc⟩:=h.at;cases e;obtain⟨b,o,cv,rfl,-,h1,-,h2,h3,-⟩:=hc g hg;exact⟨b,o,gc,cv,h0,h1,h2,h3⟩
theorem kB2(k:Int)(h:0<=k∧k<=5):kByte k=97↔k=2:=by
 unfold kByte;rcases(show k=0∨k=1∨k=2∨k=3∨k=4∨k=5 by omega) with rfl|rfl|rfl|rfl|rfl|rfl<;>simp
theorem iC_one(l:List Int):∀u∈iC l,u.oneCell'=true:=λu hu=>by
 obtain⟨z,-,rfl⟩:=List.mem_map.1 hu;rfl
def enS(st:ASt)(a j:Nat):List Int:=st.now.s.take (st.now.s.length-a)++((rArgs a st).take j).map λr=>(cAt st r).right
theorem enS_all(st:ASt)(a:Nat):enS st a a=stk (λr=>(cAt st r).right) st.now.s a:=by
 unfold enS stk rArgs;rw[List.take_take,Nat.min_self]
theorem enS_zero(st:ASt)(a:Nat):enS st a 0=st.now.s.take (st.now.s.length-a):=by simp[enS]
theorem enS_succ{st:ASt}{a j:Nat}(ha:a<st.now.s.length)(hj:j<a):enS st a (j+1)=enS st a j++[(cAt st ((st.now.s[st.now.s.length-1-a+j]?).getD 0)).right]:=by
 unfold enS;have hl:(rArgs a st).length=a:=by unfold rArgs;simp;omega
 have e:(rArgs a st)[j]?=st.now.s[st.now.s.length-1-a+j]?:=by unfold rArgs;rw[List.getElem?_take,if_pos hj,List.getElem?_drop]
 rw[List.take_add_one,List.map_append,List.append_assoc,e,List.getElem?_eq_getElem (by omega)];simp
theorem RMem.entered{lo:Nat}{w w4:World}{M Ib:Nat}{st:ASt}{cs:List (MCl×Value)}{ds:List (AFr×Value)}{cv sv dv:Value}(h:RMem lo w M Ib st cs ds cv sv dv)(hb:Below w.heap.size w w4){p:Option Addr}{n c:Nat}{s':List Int}(g:Int)(hown:w4.ownsRow w.heap.size 3 1 (.slice p n c) n (iC s'))(hn:n=s'.length):
 RRes lo M Ib (rB M cv sv dv ds) w {st with now:=⟨s',g,0⟩} (.tuple #[]) (.returned (.tuple #[])) (((w4.setCell ⟨M,2,none⟩ (.slice p n c)).setCell ⟨M,3,none⟩ (.int .i64 g)).setCell ⟨M,4,none⟩ (.int .i64 0)):=by
 subst hn;have hlz:=h.lz;obtain⟨t1,t2,t3⟩:=h.turnS (AG.of_below hb) (sv':=.slice p s'.length c) (s':=s') ⟨hown.1,hown.2.imp id λ⟨g,cap,cur,h1,h2,h3⟩=>⟨g,cap,cur,h1,by omega,h3⟩⟩ (λb hb'=>Or.inr (row_low hown (mem_vB.1 hb')));have h1:=t1.setM (i:=3) (u:=.int .i64 g) (st':={st with now:=⟨s',g,st.now.at_⟩}) rfl (by omega) rfl rfl rfl;have h2:=h1.setM (i:=4) (u:=.int .i64 0) (st':={st with now:=⟨s',g,0⟩}) rfl (by omega) rfl rfl rfl;exact⟨rfl,(t2.set (Or.inl (List.mem_cons_self ..)) _).set (Or.inl (List.mem_cons_self ..)) _,_,⟨cs,ds,cv,_,dv,h2,rfl⟩,t3⟩
theorem rEnters_any{lo:Nat}{w:World}{M Ib:Nat}{st:ASt}{B:List Nat}{gs:List LGlob}{D:Nat->Nat->Int}{v1:Value}(hG:ImgOk gs D)(hW:WfC gs D st)(h:RM lo w M Ib st B)(hI:ImR lo w Ib gs v1)(g:Nat)(hg:g<gs.length)(hga:gs[g].arity<(st.now.s.length:Int))(hl:st.now.s.length<=1000000000):
 Calls Tryz.prog 81 #[.pointer (some ⟨M,0,none⟩),.int .i64 (g:Int)] w λe w'=>RRes lo M Ib B w (rEnter gs (g:Int) st) (.tuple #[]) e w':=by
 obtain⟨ii,hii,hij⟩:=Option.map_eq_some_iff.1 Tryz.intK;simp only[Prod.mk.injEq]at hij;obtain⟨hi0,hi1,hi2⟩:=hij;obtain⟨a,ha⟩:∃a:Nat,gs[g].arity=(a:Int):=⟨gs[g].arity.toNat,by have:=hG.ar g hg;omega⟩;have han:a<st.now.s.length:=by omega
 have ha20:a<=20:=by have:=(hG.ar g hg).2;omega
 have eg:gAt gs (g:Int)=gs[g]:=by unfold gAt;rw[Int.toNat_natCast,List.getElem?_eq_getElem hg];rfl
 have HXX:Hid (rEnter gs (g:Int) st=if (rArgs a st).all (λr=>decide ((cAt st r).kind=2)) then {st with now:=⟨enS st a a,(g:Int),0⟩} else rEnd 3 st):=by
  show _=_;unfold rEnter;rw[eg,ha,enS_all];rfl
 have HEN:Hid (∀X,Below w.heap.size w X->Calls Tryz.prog 39 #[.pointer (some ⟨M,0,none⟩),.int .i64 3] X λe w'=>e=.returned (.tuple #[])∧Hid (RRes lo M Ib B w (rEnd 3 st) (.tuple #[]) (.returned (.tuple #[])) w')):=λX hX=>(rEnd_any 3 (h.keep hX)).mono λe w' hr=>⟨hr.1,hr.of (AG.of_below hX) (λb hb=>Or.inl hb) rfl⟩;obtain⟨gb,go,gc,gcv,k0,k1,-⟩:=hI.glob hg;obtain⟨cs,ds,cv,sv,dv,h,hBe⟩:=h;obtain⟨sg,sc,rfl,hcap,hsc⟩:=stack_slice h.sk hW.ne;have hcl0:0<st.cells.length:=by have:=hW.top;omega
 have e0:=h.m.at 0 rfl;have e2:=h.m.at 2 rfl;rw[ha]at k1;have HFI:Hid (∀w4 p n c s',Below w.heap.size w w4->n=s'.length->w4.ownsRow w.heap.size 3 1 (.slice p n c) n (iC s')->((∃v,w4.cell? ⟨M,2,none⟩=some v)∧(∃v,w4.cell? ⟨M,3,none⟩=some v)∧(∃v,w4.cell? ⟨M,4,none⟩=some v))∧(w4.frozen? ⟨M,2,none⟩=false∧w4.frozen? ⟨M,3,none⟩=false∧w4.frozen? ⟨M,4,none⟩=false)∧Hid (RRes lo M Ib B w {st with now:=⟨s',(g:Int),0⟩} (.tuple #[]) (.returned (.tuple #[])) (((w4.setCell ⟨M,2,none⟩ (.slice p n c)).setCell ⟨M,3,none⟩ (.int .i64 (g:Int))).setCell ⟨M,4,none⟩ (.int .i64 0)))):=λw4 p n c s' hb hn hown=>by
  have:=h.entered hb (g:Int) hown hn;rw[<-hBe]at this;have hm:=(h.keep hb).m;exact⟨⟨⟨_,hm.at 2 rfl⟩,⟨_,hm.at 3 rfl⟩,⟨_,hm.at 4 rfl⟩⟩,⟨hm.fz 2,hm.fz 3,hm.fz 4⟩,this⟩
 have HSL:Hid (∀X,Below w.heap.size w X->∀k,k<st.now.s.length->X.cell? ⟨sg,k,none⟩=some (.int .i64 ((st.now.s[k]?).getD 0))):=λX hX k hk=>cell_keep hX (by rw[hsc k hk];simp[iC,hk]);have HCE:Hid (∀X,Below w.heap.size w X->∀r:Int,0<=r->r<(st.cells.length:Int)->∃cg cc:Nat,∃pp,∃pn pc:Nat,cv=.slice (some ⟨cg,0,none⟩) st.cells.length cc∧X.cell? ⟨M,1,none⟩=some (.slice (some ⟨cg,0,none⟩) st.cells.length cc)∧X.cell? ⟨cg,r.toNat*3,none⟩=some (.int .u8 (kByte (cAt st r).kind))∧X.cell? ⟨cg,r.toNat*3+1,none⟩=some (.int .i64 (cN (cAt st r)))∧X.cell? ⟨cg,r.toNat*3+2,none⟩=some (.slice pp pn pc)∧((cAt st r).kind=2->pn=2∧∃pb po,pp=some ⟨pb,po,none⟩∧X.cell? ⟨pb,po+1,none⟩=some (.int .i64 (cAt st r).right))):=λX hX r r0 r1=>by
  obtain⟨hi,ec,-⟩:=cAt_ok hW.b ⟨r0,r1⟩;obtain⟨cg,cc,pp,pn,pc,hcv,c0,c1,c2,pt⟩:=h.cellAt (r:=r.toNat) hi;rw[<-ec]at c0 c1 pt;refine⟨cg,cc,pp,pn,pc,hcv,cell_keep hX (by rw[<-hcv];exact h.m.at 1 rfl),cell_keep hX c0,cell_keep hX c1,cell_keep hX c2,λhk=>?_⟩;obtain⟨p,cap,e,hp⟩:=pt;cases e;have hlen:(cP (cAt st r)).length=2:=by unfold cP;rw[if_pos hk];rfl
  obtain⟨b,o,-,ep,hc⟩:=hp 1 (by omega);refine⟨hlen,b,o,ep,cell_keep hX ?_⟩;rw[hc];simp only[cP,hk,if_true];rfl
 have HNW:Hid (∀X,Below w.heap.size w X->∀m,m<=st.now.s.length->∀j u,(iC (st.now.s.take m))[j]?=some u->X.cell? ((⟨sg,0,none⟩:Addr).add j)=some u):=λX hX m hm j u hu=>by
  have hj:j<(iC (st.now.s.take m)).length:=(List.getElem?_eq_some_iff.1 hu).1;simp only[iC,List.length_map,List.length_take]at hj;rw[add_off,Nat.zero_add,HSL.out X hX j (by omega),<-hu];simp only[iC,List.getElem?_map,List.getElem?_take];rw[if_pos (by omega),List.getElem?_eq_getElem (by omega)];rfl
 have hRr:RefOk st.cells.length st.now.s:=hW.s;have HRK:Hid (∀r∈st.now.s,0<=(cAt st r).kind∧(cAt st r).kind<=5):=λr hr=>(cAt_ok hW.b (hRr r hr)).2.2.k;generalize hN:st.now.s.length=N at*;have HN:=hid hN;have HRr:=hid hRr;clear h hBe hW hG hI hsc hRr hN;have z0:w.ownsRow w.heap.size 3 1 (.slice none 0 0) 0 (iC []):=⟨rfl,Or.inl ⟨rfl,rfl⟩⟩;have HZ:=hid z0;clear z0;go_enter Tryz.func81,Tryz.ntmps81;obtain⟨q,hq⟩:∃q,N=q+1+a:=⟨N-1-a,by omega⟩;have HQ:=hid hq;have t1:((N:Int)-1-(a:Int)).toNat=q:=by omega
 have t2:(0:Int)<=(N:Int)-1-(a:Int):=by omega
 have t3:(N:Int)-1-(a:Int)<=(sc:Int):=by omega
 have t4:(N:Int)-1-(a:Int)<(N:Int):=by omega
 have t5:((N:Int)-1).toNat=N-1:=by omega
 have HLQ:Hid ((iC (st.now.s.take q)).length=q*1):=by show _=_;have:=HN.out;simp[iC];omega
 clear hq;have HO2:Hid (∀p1 c1 w3 p2 c2 w4,w3.ownsRow w.heap.size 3 1 (.slice p1 (0+q) c1) (0+q) (iC []++iC (st.now.s.take q))->w.grownBy w3 (Value.slice none 0 0).ownBlock->Below w.heap.size w w3∧w.heap.size<=w3.heap.size∧Hid (w3.ownsRow w.heap.size 3 1 (.slice p1 q c1) q (iC (st.now.s.take q)))∧(w4.ownsRow w.heap.size 3 1 (.slice p2 (q+1) c2) (q+1) (iC (st.now.s.take q)++[.int .i64 ((st.now.s[q]?).getD 0)])->(w3.alloc (.cells #[.int .i64 ((st.now.s[q]?).getD 0)] 3)).grownBy w4 (Value.slice p1 q c1).ownBlock->Below w.heap.size w w4∧Hid (w4.ownsRow w.heap.size 3 1 (.slice p2 (q+1) c2) (q+1) (iC (enS st a 0))))):=λp1 c1 w3 p2 c2 w4 hown hg=>by
  have hb:Below w.heap.size w w3:=(Below.refl _ _).grown hg (Nat.le_refl _) (λb hb=>by cases hb);have ho:w3.ownsRow w.heap.size 3 1 (.slice p1 q c1) q (iC (st.now.s.take q)):=by simpa[iC]using hown
  refine⟨hb,hb.size,ho,λhown2 hg2=>⟨?_,?_⟩⟩
  ·exact(hb.alloc hb.size _).grown hg2 (by rw[World.size_alloc];have:=hb.size;omega) (λb hb'=>row_low ho hb')
  ·show w4.ownsRow _ _ _ _ _ _;have hl:=HN.out;have hql:=HQ.out;rw[enS_zero,hl,hql,show q+1+a-a=q+1 by omega,List.take_add_one,iC_app,List.getElem?_eq_getElem (by omega)];rw[List.getElem?_eq_getElem (by omega)]at hown2;exact hown2
 have HKP:Hid (∀j,j<a->(rArgs a st)[j]?=some ((st.now.s[q+j]?).getD 0)∧q+j<N):=λj hj=>by
  have h1:=HN.out;have h2:=HQ.out;refine⟨?_,by omega⟩;unfold rArgs;rw[List.getElem?_take,if_pos hj,List.getElem?_drop,h1,h2,show q+1+a-1-a+j=q+j by omega,List.getElem?_eq_getElem (by omega)];rfl
 have HSU:Hid (∀j,j<a->enS st a (j+1)=enS st a j++[(cAt st ((st.now.s[q+j]?).getD 0)).right]):=λj hj=>by
  have h1:=HN.out;have h2:=HQ.out;rw[enS_succ (by omega) hj,h1,h2,show q+1+a-1-a+j=q+j by omega]
 have HRI:Hid (∀j,j<a->(0<=(st.now.s[q+j]?).getD 0∧(st.now.s[q+j]?).getD 0<(st.cells.length:Int))∧0<=(cAt st ((st.now.s[q+j]?).getD 0)).kind∧(cAt st ((st.now.s[q+j]?).getD 0)).kind<=5):=λj hj=>by
  have h1:=HN.out;have h2:=HQ.out;refine⟨HRr.out.at (by omega),HRK.out _ ?_⟩;rw[List.getElem?_eq_getElem (by omega)];exact List.getElem_mem _
 clear HRr HRK;have hc:(((a:Int)==0)=true∧N-1=q)∨((a:Int)==0)=false:=by
  have:=HQ.out;cases hb:((a:Int)==0) with
  |false=>exact Or.inr rfl
  |true=>exact Or.inl ⟨rfl,by have:=beq_iff_eq.1 hb;omega⟩
 rcases hc with⟨hb0,hq0⟩|hb0;all_goals
  go_wp2_with (first
   |(at_builtin;refine wpList_app rfl (.tmp 29) (.tmp 34) 81 rfl w.heap.size 3 ii _ 1 8 Tryz.underlying81 hii hi0 hi1 hi2 rfl (by omega) (.slice none 0 0) 0 (iC []) (by simp[Act.eval]) HZ.out ⟨sg,0,none⟩ q sc (iC (st.now.s.take q)) (by simp[Act.eval]) HLQ.out (HNW.out w (Below.refl _ _) q (by omega)) (iC_one _) (by unfold maxLen;omega) (by omega) (Nat.le_refl _) ?_;intro p1 c1 w3 hown hgrow hat;obtain⟨hb3,hz3,HOW3,HF4⟩:=HO2.out p1 c1 w3 none 0 w3 hown hgrow;have HO4:=hid (λp2 c2 w4=>(HO2.out p1 c1 w3 p2 c2 w4 hown hgrow).2.2.2);have l3:=HSL.out w3 hb3 q (by omega);have HB3:=hid hb3;rw[Nat.zero_add];clear hown hgrow hat HF4 hb3)
   |(at_builtin;refine wpList_app rfl (.tmp 45) (.tmp 52) 81 rfl w.heap.size 3 ii _ 1 8 Tryz.underlying81 hii hi0 hi1 hi2 rfl (by omega) (.slice p1 q c1) q (iC (st.now.s.take q)) (by simp[Act.eval]) (HOW3.out.alloc _) ⟨w3.heap.size,0,none⟩ 1 1 [.int .i64 ((st.now.s[q]?).getD 0)] (by simp[Act.eval]) rfl (by have h:=World.news_of_block (heap_alloc_new w3 (Obj.cells #[.int .i64 ((st.now.s[q]?).getD 0)] 3));simpa using h) (by intro u hu;simp at hu;rcases hu with rfl;rfl) (by unfold maxLen;omega) (by omega) (by rw[World.size_alloc];omega) ?_;intro p2 c2 w4 hown hgrow hat;obtain⟨hb4,HOW4⟩:=HO4.out p2 c2 w4 hown hgrow;have HB4:=hid hb4;clear hown hgrow hat hb4 HOW3 HO4 HB3 l3)
   |(at_builtin;refine wpList_app rfl (.tmp 38) (.tmp 43) 81 rfl w.heap.size 3 ii _ 1 8 Tryz.underlying81 hii hi0 hi1 hi2 rfl (by omega) (.slice p1 q c1) q (iC (st.now.s.take q)) (by simp[Act.eval]) (HOW3.out.alloc _) ⟨w3.heap.size,0,none⟩ 1 1 [.int .i64 ((st.now.s[q]?).getD 0)] (by simp[Act.eval]) rfl (by have h:=World.news_of_block (heap_alloc_new w3 (Obj.cells #[.int .i64 ((st.now.s[q]?).getD 0)] 3));simpa using h) (by intro u hu;simp at hu;rcases hu with rfl;rfl) (by unfold maxLen;omega) (by omega) (by rw[World.size_alloc];omega) ?_;intro p2 c2 w4 hown hgrow hat;obtain⟨hb4,HOW4⟩:=HO4.out p2 c2 w4 hown hgrow;have HB4:=hid hb4;clear hown hgrow hat hb4 HOW3 HO4 HB3 l3))
 all_goals
  go_loopw [7,8] (λv7 v8 wr=>∃j p c,j<=a∧v8=.int .i64 ((q+j:Nat):Int)∧v7=.slice p (q+1+j) c∧Hid (Below w.heap.size w wr)∧Hid (wr.ownsRow w.heap.size 3 1 (.slice p (q+1+j) c) (q+1+j) (iC (enS st a j)))∧Hid (∀i,i<j->(cAt st ((st.now.s[q+i]?).getD 0)).kind=2)) (λ_ v8 _=>N-(intOf v8).toNat)
  case atStart=>exact⟨0,p2,c2,Nat.zero_le _,by congr 1;have:=HQ.out;omega,rfl,HB4,HOW4,λi hi=>by omega⟩
  case round=>
   rename World=>wr
   obtain⟨j,p,c,hja,rfl,rfl,HBR,HOR,HAL⟩:=hrel;by_cases hj:j<a
   ·try(exfalso;have:=beq_iff_eq.1 hb0;omega)
    all_goals
     obtain⟨⟨r0,r1⟩,hkk⟩:=HRI.out j hj;obtain⟨cg,cc,pp,pn,pc,-,m1,c0,c1,c2',hpt⟩:=HCE.out wr HBR.out _ r0 r1;have sl:=HSL.out wr HBR.out (q+j) (HKP.out j hj).2;have HX:=hid (HKP.out j hj);have HS1:=hid (HSU.out j hj);generalize hr:(st.now.s[q+j]?).getD 0=r at*;have HR:=hid hr;clear hr;have q1:((q+j:Nat):Int)<(N:Int)-1:=by have:=HQ.out;omega
     have q2:((q+j:Nat):Int)<(N:Int):=by have:=HQ.out;omega
     have a0:=λo=>alloc_old wr o _ _ _ c0;have a1:=λo=>alloc_old wr o _ _ _ c1;have a2:=λo=>alloc_old wr o _ _ _ c2';have a3:=λo=>alloc_old wr o _ _ _ sl;have a4:=λo=>alloc_old wr o _ _ _ m1;have HBRs:=HBR.out.size;go_upto_region 11 with fail
     go_region
     obtain⟨W1,hW1⟩:∃W1,(wr.alloc (Obj.cells #[.int .u8 (kByte (cAt st r).kind),.int .i64 (cN (cAt st r)),.slice pp pn pc] 88)).drew=W1:=⟨_,rfl⟩;have HB1:Hid (Below wr.heap.size wr W1):=by rw[<-hW1];exact((Below.refl _ _).alloc (Nat.le_refl _) _).drew
     have HB2:=hid (HBR.out.trans (HB1.out.mono HBRs));obtain⟨x0,-,x2,-⟩:C3 W1 wr.heap.size (.int .u8 (kByte (cAt st r).kind)) (.int .i64 (cN (cAt st r))) (.slice pp pn pc):=by rw[<-hW1];exact(C3.new wr _ _ _ _).keep (Below.refl _ _).drew
     rw[hW1];clear hW1 a0 a1 a2 a3 a4 c0 c1 c2' sl m1;have kb:=kB2 (cAt st r).kind hkk;cases hb:(kByte (cAt st r).kind==97) with
     |false=>
      have HE3:=hid (HEN.out W1 HB2.out);have HNO:Hid ((rArgs a st).all (λr=>decide ((cAt st r).kind=2))=false):=by
       show _=false;rw[List.all_eq_false];refine⟨r,List.mem_of_getElem? HX.out.1,?_⟩;have hn:¬kByte (cAt st r).kind=97:=by simpa using hb
       simp only[decide_eq_true_eq];exact λe=>hn (kb.2 e)
      clear kb hpt;generalize kByte (cAt st r).kind=kk at*;go_wp2_with (first
       |(go_at_call 39;refine HE3.out.mono ?_;rintro e w5 ⟨rfl,HRR⟩))
      refine bE ?_;rw[HXX.out,HNO.out];exact HRR.out
     |true=>
      have hk2:(cAt st r).kind=2:=kb.1 (by simpa using hb);obtain⟨rfl,pb,po,rfl,hpr⟩:=hpt hk2;have y1:=cell_keep HB1.out hpr;have HK2:=hid hk2;rw[show kByte (cAt st r).kind=97 by simpa using hb]at x0;have HOW5:=hid (row_kp HOR.out HB1.out);have HNX:Hid (∀p' c' w6,w6.ownsRow w.heap.size 3 1 (.slice p' (q+1+j+1) c') (q+1+j+1) (iC (enS st a j)++[.int .i64 (cAt st r).right])->(W1.alloc (.cells #[.int .i64 (cAt st r).right] 3)).grownBy w6 (Value.slice p (q+1+j) c).ownBlock->Below w.heap.size w w6∧w6.ownsRow w.heap.size 3 1 (.slice p' (q+1+(j+1)) c') (q+1+(j+1)) (iC (enS st a (j+1)))):=λp' c' w6 hown hg=>by
       refine⟨(HB2.out.alloc HB2.out.size _).grown hg (by rw[World.size_alloc];have:=HB2.out.size;omega) (λb hb'=>row_low HOR.out hb'),?_⟩;rw[HS1.out,iC_app];exact hown
      have HBs2:=HB2.out.size;clear kb hpt hb hpr hk2;go_wp2_with (first
       |(at_builtin;refine wpList_app rfl (.tmp 77) (.tmp 82) 81 rfl w.heap.size 3 ii _ 1 8 Tryz.underlying81 hii hi0 hi1 hi2 rfl (by omega) (.slice p (q+1+j) c) (q+1+j) (iC (enS st a j)) (by first|(simp[Act.eval];done)|(simp[Act.eval,Act.put];done)) (HOW5.out.alloc _) ⟨W1.heap.size,0,none⟩ 1 1 [.int .i64 (cAt st r).right] (by first|(simp[Act.eval];done)|(simp[Act.eval,Act.put];done)) rfl (by have h:=World.news_of_block (heap_alloc_new W1 (Obj.cells #[.int .i64 (cAt st r).right] 3));simpa using h) (by intro u hu;simp at hu;rcases hu with rfl;rfl) (by unfold maxLen;omega) (by omega) (by rw[World.size_alloc];omega) ?_;intro p3 c3 w6 hown hgrow hat;obtain⟨hb6,how6⟩:=HNX.out p3 c3 w6 hown hgrow;have HB6:=hid hb6;have HOW6:=hid how6;clear hown hgrow hat hb6 how6))
      refine⟨⟨j+1,p3,c3,by omega,by go_num,rfl,HB6,HOW6,λi hi=>?_⟩,by simp[intOf];omega⟩;by_cases hij:i=j
      ·subst hij;rw[HR.out];exact HK2.out
      ·exact HAL.out i (by omega)
   ·obtain rfl:j=a:=by omega
    have q1:¬((q+j:Nat):Int)<(N:Int)-1:=by have:=HQ.out;omega
    have HYES:Hid ((rArgs j st).all (λr=>decide ((cAt st r).kind=2))=true):=by
     show _=true;rw[List.all_eq_true];intro x hx;obtain⟨i,hi,rfl⟩:=List.getElem_of_mem hx;have hl:(rArgs j st).length<=j:=by unfold rArgs;simp;omega
     obtain⟨e,-⟩:=HKP.out i (by omega);rw[List.getElem?_eq_getElem hi]at e;rw[Option.some.inj e];simpa using HAL.out i (by omega)
    obtain⟨⟨⟨v2,g2⟩,⟨v3,g3⟩,⟨v4,g4⟩⟩,⟨f2,f3,f4⟩,HRR⟩:=HFI.out wr p (q+1+j) c (enS st j j) HBR.out (by have:=HOR.out.1;simp[iC]at this;omega) HOR.out;go_wp2;refine bE ?_;rw[HXX.out,HYES.out];exact HRR.out
end Go.Proofs.YtahmgjjgikgpoaaGreatDoor
