import Derived.Test.YtblobglfjhilmaaGreatDoorKaJ
import Derived.Test.YtblobglfjhilmaaGreatDoorJz5J
import Derived.Test.YtblobglfjhilmaaGreatDoorCardK1J
import Derived.Test.YtblobglfjhilmaaGreatDoorJz9J
import Derived.RangeFuncNested
import Derived.RangeFuncBound
import Derived.RangeFuncCalls
import Derived.RangeFuncLeaves
import Derived.Shelf.RegionOpen
import Derived.Shelf.Abstract
import Derived.OwnWalkIn
import Derived.TacticsInMore
import Derived.LoopNIn
import Derived.LoopIn
import Derived.Lib.AppendIntMem
set_option maxRecDepth 100000
set_option maxHeartbeats 2000000
namespace Go.Proofs.YtblobglfjhilmaaGreatDoor
open Go.RowKit Go.Sort
theorem MRes.mm{lo M Pb:Nat}{B:List Nat}{w:World}{st:MSt}{r:Value}{e:Ending}{w':World}(h:MRes lo M Pb B w st r e w'):∃B1,MM lo w' M Pb st B1∧AG B w w'∧∀b∈B1,b∈B∨w.heap.size<=b:=by
 obtain⟨-,h1,B1,h2,h3⟩:=h;exact⟨B1,h2,h1,h3⟩
theorem truth_any(b:Bool)(w:World):Calls Tryz.prog 221 #[.bool b] w λe w'=>e=.returned (.agg #[.int .u8 3,.int .i64 (if b then 1 else 0),.int .i32 0,.int .i32 0,.slice none 0 0])∧Below w.heap.size w w':=by
 cases b
 ·go_enter Tryz.func221,Tryz.ntmps221;go_wp2;have d:=λj v hv=>alloc_cell w #[.int .u8 3,.int .i64 0,.int .i32 0,.int .i32 0,.slice none 0 0] 158 j v hv;refine bodyPost_ret (v:=.agg #[.int .u8 3,.int .i64 0,.int .i32 0,.int .i32 0,.slice none 0 0]) (by simp[results,Tryz.results221,go_sem,d 0 _ rfl,d 1 _ rfl,d 2 _ rfl,d 3 _ rfl,d 4 _ rfl]) rfl ⟨rfl,(Below.refl _ _).alloc (Nat.le_refl _) _⟩
 ·go_enter Tryz.func221,Tryz.ntmps221;go_wp2;have d:=λj v hv=>alloc_cell w #[.int .u8 3,.int .i64 1,.int .i32 0,.int .i32 0,.slice none 0 0] 158 j v hv;refine bodyPost_ret (v:=.agg #[.int .u8 3,.int .i64 1,.int .i32 0,.int .i32 0,.slice none 0 0]) (by simp[results,Tryz.results221,go_sem,d 0 _ rfl,d 1 _ rfl,d 2 _ rfl,d 3 _ rfl,d 4 _ rfl]) rfl ⟨rfl,(Below.refl _ _).alloc (Nat.le_refl _) _⟩
structure Bw (w X:World) (M:Nat) (L:List Value):Prop where
 os:X.os=w.os
 tape:X.tape=w.tape
 output:X.output=w.output
 size:w.heap.size<=X.heap.size
 block:∀b,b<w.heap.size->b≠M->X.heap[b]?=w.heap[b]?
 lt:M<w.heap.size
 m:FBL X M L
theorem Bw.drew{w X:World}{M:Nat}{L:List Value}(h:Bw w X M L):Bw w X.drew M L:=⟨h.os,h.tape,h.output,h.size,h.block,h.lt,h.m.of_block rfl (Nat.le_refl _)⟩
theorem Bw.alloc{w X:World}{M:Nat}{L:List Value}{o:Obj}(h:Bw w X M L):Bw w (X.alloc o) M L:=
 have hb:Below X.heap.size X (X.alloc o):=(Below.refl _ _).alloc (Nat.le_refl _) _
 ⟨hb.os.trans h.os,hb.tape.trans h.tape,hb.output.trans h.output,Nat.le_trans h.size hb.size,λb h1 h2=>(hb.block b (Nat.lt_of_lt_of_le h1 h.size)).trans (h.block b h1 h2),h.lt,h.m.of_block (hb.block M (Nat.lt_of_lt_of_le h.lt h.size)) hb.size⟩
theorem Bw.set2{w X:World}{M:Nat}{L:List Value}{v:Value}(h:Bw w X M L)(hl:2<L.length):Bw w (X.setCell ⟨M,2,none⟩ v) M (L.set 2 v):=
 ⟨h.os,h.tape,h.output,by simpa using h.size,λb h1 h2=>(Below.heap_setCell _ _ _ _ h2).trans (h.block b h1 h2),h.lt,h.m.set hl v⟩
theorem Bw.fresh{w X:World}{M b j:Nat}{L:List Value}{v:Value}(h:Bw w X M L)(hb:w.heap.size<=b):Bw w (X.setCell ⟨b,j,none⟩ v) M L:=
 have hl:=h.lt
 ⟨h.os,h.tape,h.output,by simpa using h.size,λc h1 h2=>(Below.heap_setCell _ _ _ _ (by show c≠b;omega)).trans (h.block c h1 h2),h.lt,h.m.of_block (Below.heap_setCell _ _ _ _ (by show M≠b;omega)) (by simp)⟩
theorem Bw.cell{w X:World}{M b j:Nat}{L:List Value}{v:Value}(h:Bw w X M L)(hb:b≠M)(hc:w.cell? ⟨b,j,none⟩=some v):X.cell? ⟨b,j,none⟩=some v:=cell_same (h.block b (block_lt_of_cell hc) hb) hc
theorem Bw.start{lo:Nat}{w:World}{M Pb:Nat}{st:MSt}{cs:List (MCl×Value)}{ds:List (MFr×Value)}{cv sv kv dv tv:Value}(h:MMem lo w M Pb st cs ds cv sv kv dv tv):Bw w w M (mL Pb cv sv kv dv tv st):=⟨rfl,rfl,rfl,Nat.le_refl _,λ_ _ _=>rfl,h.m.lt,h.m⟩
theorem MMem.less{lo:Nat}{w X:World}{M Pb m c:Nat}{p:Option Addr}{st:MSt}{cs:List (MCl×Value)}{ds:List (MFr×Value)}{cv kv dv tv:Value}(h:MMem lo w M Pb st cs ds cv (.slice p st.stack.length c) kv dv tv)(hm:m<=st.stack.length)(hX:Bw w X M (mL Pb cv (.slice p m c) kv dv tv {st with stack:=st.stack.take m})):
 MMem lo X M Pb {st with stack:=st.stack.take m} cs ds cv (.slice p m c) kv dv tv∧AG (mB M cv (.slice p st.stack.length c) dv tv) w X∧mB M cv (.slice p m c) dv tv=mB M cv (.slice p st.stack.length c) dv tv:=by
 have hv:vB (.slice p m c)=vB (.slice p st.stack.length c):=by unfold vB;cases p<;>rfl
 have hmb:mB M cv (.slice p m c) dv tv=mB M cv (.slice p st.stack.length c) dv tv:=by unfold mB;rw[hv]
 have hnd:=List.nodup_cons.1 h.nd;have hrg:=h.rg;have hne:∀b,b∈vB cv++(vB (.slice p st.stack.length c)++(vB dv++vB tv))->X.heap[b]?=w.heap[b]?:=λb hb=>hX.block b (hrg b (List.mem_cons_of_mem _ hb)).2 λe=>hnd.1 (e▸hb);have hbl:Below lo w X:=⟨hX.os,hX.tape,hX.output,hX.size,λb hb=>hX.block b (Nat.lt_of_lt_of_le hb h.lz) (by have:=h.ml;omega)⟩;have hl:(st.stack.take m).length=m:=by rw[List.length_take];omega
 have hd:=owns_tk h.sk hm;rw[rfC_take]at hd;refine⟨⟨hX.m,row_fr h.cl λb hb=>hne b (List.mem_append_left _ hb),λx hx=>(h.fl x hx).fr λb h1 h2=>⟨by rw[hmb];exact h1,hX.block b h2 λe=>h1.2 (e▸List.mem_cons_self ..)⟩,?_,row_fr h.dp λb hb=>hne b (List.mem_append_right _ (List.mem_append_right _ (List.mem_append_left _ hb))),λx hx=>(h.dc x hx).fr hbl,h.cd.fr hbl,row_fr h.tx λb hb=>hne b (List.mem_append_right _ (List.mem_append_right _ (List.mem_append_right _ hb))),h.hcs,h.hds,by rw[hmb];exact h.nd,h.ml⟩,⟨hX.os,hX.tape,hX.output,hX.size,λb h1 h2=>hX.block b h1 λe=>h2 (e▸List.mem_cons_self ..)⟩,hmb⟩;show X.ownsRow lo _ 1 _ (st.stack.take m).length _;rw[hl];exact row_fr hd λb hb=>hne b (List.mem_append_right _ (List.mem_append_left _ (hv▸hb)))
theorem popX{w:World}{M g n c:Nat}{x:Int}(h:w.cell? ⟨M,2,none⟩=some (.slice (some ⟨g,0,none⟩) (n+1) c))(hf:w.frozen? ⟨M,2,none⟩=false)(hx:w.cell? ⟨g,n,none⟩=some (.int .i32 x))(hn:n+1<=1000000000000)(hc:n+1<=c):
 Calls Tryz.prog 162 #[.pointer (some ⟨M,0,none⟩)] w λe w'=>e=.returned (.int .i32 x)∧w'=(w.setCell ⟨M,2,none⟩ (.slice (some ⟨g,0,none⟩) n c)).drew.drew:=by
 have HT:=hid (top_any 0 h (by omega) hn);have HD:Hid (Calls Tryz.prog 163 #[.pointer (some ⟨M,0,none⟩),.int .i64 1] w.drew λe w'=>e=.returned (.tuple #[])∧w'=(w.setCell ⟨M,2,none⟩ (.slice (some ⟨g,0,none⟩) n c)).drew.drew):=by
  have d2:w.drew.drew.cell? ⟨M,2,none⟩=_:=h;have df:w.drew.drew.frozen? ⟨M,2,none⟩=_:=hf;have i0:(0:Int)<=((n+1:Nat):Int)-1:=by omega
  have i1:((n+1:Nat):Int)-1<=(c:Int):=by omega
  have i2:(((n+1:Nat):Int)-1).toNat=n:=by omega
  have i3:IntKind.i64.wrap (((n+1:Nat):Int)-1)=((n+1:Nat):Int)-1:=i64w (by omega);show Calls _ _ _ _ _;go_enter Tryz.func163,Tryz.ntmps163;go_wp2;go_region
  all_goals(try go_wp2)
  all_goals
   refine bE ?_;refine⟨rfl,?_⟩;first|rfl|(simp;done)
 have t1:w.drew.cell? ⟨g,n+1-1-0,none⟩=some (.int .i32 x):=hx;have t2:w.drew.cell? ⟨g,n,none⟩=some (.int .i32 x):=hx;clear h hx hf;go_enter Tryz.func162,Tryz.ntmps162;go_wp2_with (first
  |(go_at_call 156;refine HT.out.mono ?_;rintro e w1 ⟨rfl,rfl⟩)
  |(go_at_call 163;refine HD.out.mono ?_;rintro e w2 ⟨rfl,rfl⟩))
 go_ret;exact⟨rfl,rfl⟩
theorem FBL.new5(w:World)(x0 x1 x2 x3 x4:Value)(t:TypeId):FBL (w.alloc (.cells #[x0,x1,x2,x3,x4] t)) w.heap.size [x0,x1,x2,x3,x4]:=by
 refine⟨λj hj=>?_,λj=>frozen_new _ _ _ _,by simp⟩;have:j=0∨j=1∨j=2∨j=3∨j=4:=by simp at hj;omega
 rcases this with rfl|rfl|rfl|rfl|rfl<;>exact alloc_cell w #[x0,x1,x2,x3,x4] _ _ _ rfl
theorem FBL.drew{w:World}{b:Nat}{L:List Value}(h:FBL w b L):FBL w.drew b L:=h.of_block rfl (Nat.le_refl _)
structure Slc where
 idx:Nat
 dst:Option Nat
 needs:List Nat
 G:Value->World->Prop
def unlistC(l:List Nat)(listed:Array Bool):Bool:=(List.range listed.size).all λi=>listed.getD i false||l.contains i
def evd(a:Act):Option Nat->Value
 |some d=>a.eval (.tmp d)
 |none=>undef
section
variable {P:Program} {ops:Array Oper} {Q:Exit->Act->World->Prop} {md:Region.Mode} {S:World->Prop}
theorem wpAnyH_factsC(hd:downB md ops=true)(sl:List Slc)(D:List Nat)(hD:∀t∈sl,∀d,t.dst=some d->d∈D)(hdn:∀t∈sl,∀t'∈sl,t.idx≠t'.idx->∀d,t.dst=some d->t'.dst≠some d)(hin:(sl.map (·.idx)).Nodup)
 (hnd:∀t∈sl,∀j∈t.needs,Region.waitsFor md ops t.idx j=true)
 (a0:Act) (hlt:∀t∈sl,∀d,t.dst=some d->d<a0.tmps.size) (W:Array Bool->Act->World->Prop) (hWS:∀l a w,W l a w->S w)
 (hstep:∀t∈sl,∃o,ops[t.idx]?=some o∧o.guard=none∧o.dst=t.dst∧∀listed a w,listed.size=ops.size->Agree D a0 a->listed.getD t.idx true=false->(∀j∈t.needs,listed.getD j false=true)->W listed a w->(∀t'∈sl,listed.getD t'.idx false=true->t'.G (evd a t'.dst) w)->
  o.wp P a w (λa' w'=>∃v,a'=a.put o.dst v∧W (listed.setIfInBounds t.idx true) a' w'∧t.G (if t.dst=none then undef else v) w'∧∀t'∈sl,t'.idx≠t.idx->∀u,t'.G u w->t'.G u w') Q)
 {w0:World} (fuel:Nat) (listed0:Array Bool) (hls:listed0.size=ops.size) (hfu:listed0.toList.count false<=fuel) (hun:unlistC (sl.map (·.idx)) listed0=true) (hno:∀t∈sl,listed0.getD t.idx false=false)
 (hW:W listed0 a0 w0)
 (hend:∀listed a w,(∀i,i<ops.size->listed.getD i false=true)->Agree D a0 a->W listed a w->(∀t∈sl,t.G (evd a t.dst) w)->Q .normal a w):wpAnyH P md ops Q S fuel listed0 a0 w0:=by
 refine wpAnyH_inv hd (λlisted a w=>listed.size=ops.size∧(∀i,listed.getD i true=false->i∈sl.map (·.idx))∧Agree D a0 a∧W listed a w∧∀t∈sl,listed.getD t.idx false=true->t.G (evd a t.dst) w) ?_ ?_ fuel listed0 a0 w0 hls hfu ?_
 ·rintro listed a w i o ⟨hsz,hI,hA,hWw,hG⟩ ho hu hall;obtain⟨t,ht,rfl⟩:=List.mem_map.1 (hI i hu);obtain⟨o',ho',hgd,hdst,hrun⟩:=hstep t ht;obtain rfl:o'=o:=Option.some.inj (ho'.symm.trans ho);have hl:t.idx<listed.size:=by rw[hsz];exact(Array.getElem?_eq_some_iff.1 ho).1
  have hnl:∀j∈t.needs,listed.getD j false=true:=λj hj=>by
   obtain⟨oj,hoj,e,he,hb,hon⟩:=Region.waitsFor_spec (hnd t ht _ hj);obtain rfl:oj=o':=Option.some.inj (hoj.symm.trans ho);rw[<-hon];exact hall e he hb
  have hr:=hrun listed a w hsz hA hu hnl hWw hG;unfold wpOp;simp only[ho];rw[if_pos (by simp[Region.wanted,hgd])];refine .inl (Oper.wp_mono (λa' w' h'=>?_) hr);obtain⟨v,rfl,hW',hG',hK⟩:=h';have hset:(listed.setIfInBounds t.idx true).getD t.idx false=true:=by rw[Array.getD_eq_getD_getElem?,Array.getElem?_setIfInBounds_self_of_lt hl];rfl
  rw[hdst]at hW' ⊢;refine⟨hWS _ _ _ hW',by simpa using hsz,λj hj=>?_,?_,hW',λt' ht' hl'=>?_⟩
  ·by_cases hij:t.idx=j
   ·exact List.mem_map.2 ⟨t,ht,hij⟩
   ·rw[getD_set_ne true hij]at hj;exact hI j hj
  ·cases hx:t.dst with
   |none=>exact hA
   |some d=>exact hA.put (hD t ht d hx) v
  ·by_cases hij:t.idx=t'.idx
   ·obtain rfl:t=t':=inj_nodup hin ht ht' hij;cases hx:t.dst with
    |none=>
     rw[hx,if_pos rfl]at hG';exact hG'
    |some d=>
     rw[hx,if_neg (by simp)]at hG';show t.G ((a.put (some d) v).eval (.tmp d)) w';rw[eval_put_self (by rw[hA.size];exact hlt t ht d hx)];exact hG'
   ·rw[getD_set_ne false hij]at hl';have h1:=hK t' ht' (Ne.symm hij) _ (hG t' ht' hl');have e:evd (a.put t.dst v) t'.dst=evd a t'.dst:=by
     cases hx:t.dst with
     |none=>rfl
     |some d=>
      cases hy:t'.dst with
      |none=>rfl
      |some d'=>exact eval_put_ne (λe=>hdn t ht t' ht' hij d hx (by rw[hy,e])) v
    rw[e];exact h1
 ·rintro listed a w ⟨hsz,hI,hA,hWw,hG⟩ hall;refine hend listed a w hall hA hWw λt ht=>hG t ht (hall _ ?_);obtain⟨o,ho,-⟩:=hstep t ht;exact(Array.getElem?_eq_some_iff.1 ho).1
 ·refine⟨hls,λi hi=>?_,Agree.refl _ _,hW,λt ht h1=>?_⟩
  ·have hil:i<listed0.size:=by
    rcases Nat.lt_or_ge i listed0.size with h|h
    ·exact h
    ·simp[Array.getElem?_eq_none h]at hi
   have h1:=List.all_eq_true.1 hun i (List.mem_range.2 hil);rw[getD_both hi]at h1;simpa using h1
  ·rw[hno t ht]at h1;cases h1
theorem wp_val{o:Oper}{a:Act}{w w':World}{v:Value}{next:Act->World->Prop}(h:(execOp a.eval o).run P w=.ok (.value v) w')(hk:next (a.put o.dst v) w'):o.wp P a w next Q:=by
 unfold Oper.wp;rw[h];exact hk
theorem wp_skip{o:Oper}{a:Act}{w w':World}{next:Act->World->Prop}(h:(execOp a.eval o).run P w=.ok .skip w')(hk:next (a.put o.dst undef) w'):o.wp P a w next Q:=by
 unfold Oper.wp;rw[h];exact hk
theorem wp_enter{o:Oper}{a:Act}{w:World}{f:FuncId}{args:Array Value}{next:Act->World->Prop}(h:(execOp a.eval o).run P w=.ok (.enter f args) w)(hc:Calls P f args w λe w''=>∃v,e=.returned v∧next (a.put o.dst v) w''):o.wp P a w next Q:=by
 unfold Oper.wp;rw[h];refine Calls.mono hc λe w'' he=>?_;obtain⟨v,rfl,hn⟩:=he;exact hn
theorem tail1{n:Nat}{a:Act}{w:World}(h:wpOp P ops Q n (Q .normal) a w):tailQ P ops Q n (0+1) .normal a w:=by
 show wpOps P ops Q [n] a w;rw[wpOps_cons];exact wpOp_mono (λa w h=>h) h
end
def GZ(w0:World)(v:Value)(w:World):Prop:=∃b x0 x1 x2 x3 x4,v=.pointer (some ⟨b,0,none⟩)∧w0.heap.size<=b∧FBL w b [x0,x1,x2,x3,x4]
theorem GZ.keep{w0 w w':World}{v:Value}(h:GZ w0 v w)(hk:∀b,w0.heap.size<=b->b<w.heap.size->w'.heap[b]?=w.heap[b]?)(hz:w.heap.size<=w'.heap.size):GZ w0 v w':=by
 obtain⟨b,x0,x1,x2,x3,x4,h1,h2,h3⟩:=h;exact⟨b,x0,x1,x2,x3,x4,h1,h2,h3.of_block (hk b h2 h3.lt) hz⟩
structure CalW (w0:World) (M:Nat) (L0 L1 L2 R:List Value) (listed:Array Bool) (a:Act) (w:World):Prop where
 b:Bw w0 w M (if listed.getD 13 false then L2 else if listed.getD 5 false then L1 else L0)
 o:listed.getD 13 false=true->listed.getD 5 false=true
 ne:listed.getD 16 false=true->listed.getD 17 false=true->a.eval (.tmp 4)≠a.eval (.tmp 5)
 p:listed.getD 18 false=true->listed.getD 16 false=true
 st:listed.getD 18 false=true->∃b,w0.heap.size<=b∧a.eval (.tmp 4)=.pointer (some ⟨b,0,none⟩)∧FBL w b R
def calSl(w0:World)(vr pr ar vl pl al:Value):List Slc:=[⟨5,some 11,[],λv _=>v=vr⟩,⟨6,some 12,[5],λv _=>v=pr⟩,⟨7,some 13,[6],λv _=>v=ar⟩,⟨13,some 19,[5],λv _=>v=vl⟩,⟨14,some 20,[13],λv _=>v=pl⟩,⟨15,some 21,[14],λv _=>v=al⟩,⟨16,some 4,[],GZ w0⟩,⟨17,some 5,[],GZ w0⟩,⟨18,none,[16,7,5,13],λ_ _=>True⟩]
theorem calSl_all{w0:World}{vr pr ar vl pl al:Value}{P:Slc->Prop}(h1:P ⟨5,some 11,[],λv _=>v=vr⟩)(h2:P ⟨6,some 12,[5],λv _=>v=pr⟩)(h3:P ⟨7,some 13,[6],λv _=>v=ar⟩)(h4:P ⟨13,some 19,[5],λv _=>v=vl⟩)(h5:P ⟨14,some 20,[13],λv _=>v=pl⟩)(h6:P ⟨15,some 21,[14],λv _=>v=al⟩)(h7:P ⟨16,some 4,[],GZ w0⟩)(h8:P ⟨17,some 5,[],GZ w0⟩)(h9:P ⟨18,none,[16,7,5,13],λ_ _=>True⟩):∀t∈calSl w0 vr pr ar vl pl al,P t:=by
 intro t ht;simp only[calSl,List.mem_cons,List.not_mem_nil,or_false]at ht;rcases ht with rfl|rfl|rfl|rfl|rfl|rfl|rfl|rfl|rfl<;>assumption
theorem calSl_nd(w0:World)(vr pr ar vl pl al:Value):(∀t∈calSl w0 vr pr ar vl pl al,∀d,t.dst=some d->d∈[11,12,13,19,20,21,4,5])∧(∀t∈calSl w0 vr pr ar vl pl al,∀t'∈calSl w0 vr pr ar vl pl al,t.idx≠t'.idx->∀d,t.dst=some d->t'.dst≠some d)∧((calSl w0 vr pr ar vl pl al).map (·.idx)).Nodup:=by
 refine⟨?_,?_,by simp[calSl]⟩
 ·refine calSl_all ?_ ?_ ?_ ?_ ?_ ?_ ?_ ?_ ?_<;>(intro d hd;simp at hd;try subst hd;try simp)
 ·refine calSl_all ?_ ?_ ?_ ?_ ?_ ?_ ?_ ?_ ?_<;>refine calSl_all ?_ ?_ ?_ ?_ ?_ ?_ ?_ ?_ ?_<;>(intro hn d hd;simp at hd hn;try subst hd;try simp)
theorem calSl_keep{w0 w w':World}{vr pr ar vl pl al:Value}(hk:∀v,GZ w0 v w->GZ w0 v w')(i:Nat):∀t∈calSl w0 vr pr ar vl pl al,t.idx≠i->∀u,t.G u w->t.G u w':=
 calSl_all (λ_ _ h=>h) (λ_ _ h=>h) (λ_ _ h=>h) (λ_ _ h=>h) (λ_ _ h=>h) (λ_ _ h=>h) (λ_ _ h=>hk _ h) (λ_ _ h=>hk _ h) (λ_ _ h=>h)
section
variable {w0 w:World} {M:Nat} {L0 L1 L2 R:List Value} {listed:Array Bool} {a:Act}
theorem CalW.quiet(h:CalW w0 M L0 L1 L2 R listed a w){i d:Nat}(hi:i≠5∧i≠13∧i≠16∧i≠17∧i≠18)(hd:d≠4∧d≠5)(v:Value):CalW w0 M L0 L1 L2 R (listed.setIfInBounds i true) (a.put (some d) v) w:=by
 refine⟨?_,?_,?_,?_,?_⟩
 ·rw[getD_set_ne false hi.2.1,getD_set_ne false hi.1];exact h.b
 ·rw[getD_set_ne false hi.2.1,getD_set_ne false hi.1];exact h.o
 ·rw[getD_set_ne false hi.2.2.1,getD_set_ne false hi.2.2.2.1,eval_put_ne hd.1,eval_put_ne hd.2];exact h.ne
 ·rw[getD_set_ne false hi.2.2.2.2,getD_set_ne false hi.2.2.1];exact h.p
 ·rw[getD_set_ne false hi.2.2.2.2,eval_put_ne hd.1];exact h.st
theorem getD_set_at{l:Array Bool}{i:Nat}(h:i<l.size):(l.setIfInBounds i true).getD i false=true:=by rw[Array.getD_eq_getD_getElem?,Array.getElem?_setIfInBounds_self_of_lt h];rfl
theorem bw_new{w':World}{v:Value}{X:World}(e:w'=(X.setCell ⟨M,2,none⟩ v).drew.drew)(hM:M<w0.heap.size):∀b,w0.heap.size<=b->w'.heap[b]?=X.heap[b]?:=λb hb=>by
 rw[e];show(X.setCell ⟨M,2,none⟩ v).heap[b]?=_;exact Below.heap_setCell _ _ _ _ (by show b≠M;omega)
theorem CalW.pop1(h:CalW w0 M L0 L1 L2 R listed a w)(hs:5<listed.size)(hu:listed.getD 5 true=false){d:Nat}(hd:d≠4∧d≠5)(v:Value):Bw w0 w M L0∧∀w',Bw w0 w' M L1->(∀b,w0.heap.size<=b->w'.heap[b]?=w.heap[b]?)->w.heap.size<=w'.heap.size->CalW w0 M L0 L1 L2 R (listed.setIfInBounds 5 true) (a.put (some d) v) w':=by
 have h5:listed.getD 5 false=false:=getD_both hu;have h13:listed.getD 13 false=false:=by
  cases hx:listed.getD 13 false with
  |false=>rfl
  |true=>rw[h.o hx]at h5;cases h5
 have hb:=h.b;rw[h13,h5]at hb;refine⟨hb,λw' hw hk hz=>⟨?_,λ_=>getD_set_at hs,?_,?_,?_⟩⟩
 ·rw[getD_set_ne false (show 5≠13 by decide),h13,getD_set_at hs];exact hw
 ·rw[getD_set_ne false (show 5≠16 by decide),getD_set_ne false (show 5≠17 by decide),eval_put_ne hd.1,eval_put_ne hd.2];exact h.ne
 ·rw[getD_set_ne false (show 5≠18 by decide),getD_set_ne false (show 5≠16 by decide)];exact h.p
 ·rw[getD_set_ne false (show 5≠18 by decide),eval_put_ne hd.1];intro h18;obtain⟨b,q1,q2,q3⟩:=h.st h18;exact⟨b,q1,q2,q3.of_block (hk b q1) hz⟩
theorem CalW.pop2(h:CalW w0 M L0 L1 L2 R listed a w)(hs:13<listed.size)(hu:listed.getD 13 true=false)(h5:listed.getD 5 false=true){d:Nat}(hd:d≠4∧d≠5)(v:Value):Bw w0 w M L1∧∀w',Bw w0 w' M L2->(∀b,w0.heap.size<=b->w'.heap[b]?=w.heap[b]?)->w.heap.size<=w'.heap.size->CalW w0 M L0 L1 L2 R (listed.setIfInBounds 13 true) (a.put (some d) v) w':=by
 have h13:listed.getD 13 false=false:=getD_both hu;have hb:=h.b;rw[h13,h5]at hb;refine⟨hb,λw' hw hk hz=>⟨?_,λ_=>by rw[getD_set_ne false (show 13≠5 by decide)];exact h5,?_,?_,?_⟩⟩
 ·rw[getD_set_at hs];exact hw
 ·rw[getD_set_ne false (show 13≠16 by decide),getD_set_ne false (show 13≠17 by decide),eval_put_ne hd.1,eval_put_ne hd.2];exact h.ne
 ·rw[getD_set_ne false (show 13≠18 by decide),getD_set_ne false (show 13≠16 by decide)];exact h.p
 ·rw[getD_set_ne false (show 13≠18 by decide),eval_put_ne hd.1];intro h18;obtain⟨b,q1,q2,q3⟩:=h.st h18;exact⟨b,q1,q2,q3.of_block (hk b q1) hz⟩
theorem ptr_ne{b c:Nat}(h:b≠c):Value.pointer (some ⟨b,0,none⟩)≠.pointer (some ⟨c,0,none⟩):=by
 intro hc;simp only[Value.pointer.injEq,Option.some.injEq,Addr.mk.injEq]at hc;exact h hc.1
theorem CalW.new4(h:CalW w0 M L0 L1 L2 R listed a w)(hu:listed.getD 16 true=false)(ha:5<a.tmps.size)(h5:listed.getD 17 false=true->GZ w0 (a.eval (.tmp 5)) w)(o:Obj):CalW w0 M L0 L1 L2 R (listed.setIfInBounds 16 true) (a.put (some 4) (.pointer (some ⟨w.heap.size,0,none⟩))) (w.alloc o):=by
 have h16:listed.getD 16 false=false:=getD_both hu;refine⟨?_,?_,?_,?_,?_⟩
 ·rw[getD_set_ne false (show 16≠13 by decide),getD_set_ne false (show 16≠5 by decide)];exact h.b.alloc
 ·rw[getD_set_ne false (show 16≠13 by decide),getD_set_ne false (show 16≠5 by decide)];exact h.o
 ·rw[getD_set_ne false (show 16≠17 by decide)];intro _ h17;obtain⟨b,_,_,_,_,_,e,-,hb⟩:=h5 h17;have hlt:=hb.lt;rw[eval_put_self (by omega),eval_put_ne (by decide),e];exact ptr_ne (by omega)
 ·rw[getD_set_ne false (show 16≠18 by decide)];intro h18;rw[h.p h18]at h16;cases h16
 ·rw[getD_set_ne false (show 16≠18 by decide)];intro h18;rw[h.p h18]at h16;cases h16
theorem CalW.new5(h:CalW w0 M L0 L1 L2 R listed a w)(ha:5<a.tmps.size)(h4:listed.getD 16 false=true->GZ w0 (a.eval (.tmp 4)) w)(o:Obj):CalW w0 M L0 L1 L2 R (listed.setIfInBounds 17 true) (a.put (some 5) (.pointer (some ⟨w.heap.size,0,none⟩))) (w.alloc o):=by
 refine⟨?_,?_,?_,?_,?_⟩
 ·rw[getD_set_ne false (show 17≠13 by decide),getD_set_ne false (show 17≠5 by decide)];exact h.b.alloc
 ·rw[getD_set_ne false (show 17≠13 by decide),getD_set_ne false (show 17≠5 by decide)];exact h.o
 ·rw[getD_set_ne false (show 17≠16 by decide)];intro h16 _;obtain⟨b,_,_,_,_,_,e,-,hb⟩:=h4 h16;have hlt:=hb.lt;rw[eval_put_self (by omega),eval_put_ne (by decide),e];exact ptr_ne (by omega)
 ·rw[getD_set_ne false (show 17≠18 by decide),getD_set_ne false (show 17≠16 by decide)];exact h.p
 ·rw[getD_set_ne false (show 17≠18 by decide),eval_put_ne (by decide)];intro h18;obtain⟨b,q1,q2,q3⟩:=h.st h18;exact⟨b,q1,q2,q3.of_block (heap_alloc_old w o q3.lt) (by simp)⟩
theorem GZ.new(w0:World)(hw:w0.heap.size<=w.heap.size)(t:TypeId):GZ w0 (.pointer (some ⟨w.heap.size,0,none⟩)) (w.alloc (.cells #[.int .u8 0,.int .i64 0,.int .i32 0,.int .i32 0,.slice none 0 0] t)):=⟨_,_,_,_,_,_,rfl,hw,FBL.new5 _ _ _ _ _ _ _⟩
def w5(w:World)(b:Nat)(x0 x1 x2 x3 x4:Value):World:=((((w.setCell ⟨b,0,none⟩ x0).setCell ⟨b,1,none⟩ x1).setCell ⟨b,2,none⟩ x2).setCell ⟨b,3,none⟩ x3).setCell ⟨b,4,none⟩ x4
theorem FBL.st5{b:Nat}{z0 z1 z2 z3 z4:Value}(h:FBL w b [z0,z1,z2,z3,z4])(x0 x1 x2 x3 x4:Value):FBL (w5 w b x0 x1 x2 x3 x4) b [x0,x1,x2,x3,x4]:=by
 have h0:=FBL.set h (i:=0) (by simp) x0;have h1:=FBL.set h0 (i:=1) (by simp) x1;have h2:=FBL.set h1 (i:=2) (by simp) x2;have h3:=FBL.set h2 (i:=3) (by simp) x3;exact FBL.set h3 (i:=4) (by simp) x4
theorem FBL.off5{b c:Nat}{L:List Value}(h:FBL w c L)(hc:c≠b)(x0 x1 x2 x3 x4:Value):FBL (w5 w b x0 x1 x2 x3 x4) c L:=by
 refine h.of_block ?_ (by simp[w5]);unfold w5;rw[Below.heap_setCell _ _ _ _ hc,Below.heap_setCell _ _ _ _ hc,Below.heap_setCell _ _ _ _ hc,Below.heap_setCell _ _ _ _ hc,Below.heap_setCell _ _ _ _ hc]
theorem Bw.st5{X:World}{b:Nat}{L:List Value}(h:Bw w X M L)(hb:w.heap.size<=b)(x0 x1 x2 x3 x4:Value):Bw w (w5 X b x0 x1 x2 x3 x4) M L:=((((h.fresh hb).fresh hb).fresh hb).fresh hb).fresh hb
theorem GZ.st5{b:Nat}{v:Value}{z0 z1 z2 z3 z4:Value}(h:GZ w0 v w)(hb:FBL w b [z0,z1,z2,z3,z4])(x0 x1 x2 x3 x4:Value):GZ w0 v (w5 w b x0 x1 x2 x3 x4):=by
 obtain⟨c,y0,y1,y2,y3,y4,e,h1,h2⟩:=h;by_cases hc:c=b
 ·subst hc;exact⟨c,_,_,_,_,_,e,h1,h2.st5 _ _ _ _ _⟩
 ·exact⟨c,_,_,_,_,_,e,h1,h2.off5 hc _ _ _ _ _⟩
theorem CalW.stored{r0 r1 r2 r3 r4:Value}(h:CalW w0 M L0 L1 L2 [r0,r1,r2,r3,r4] listed a w)(h16:listed.getD 16 false=true)(h4:GZ w0 (a.eval (.tmp 4)) w):∃b z0 z1 z2 z3 z4,a.eval (.tmp 4)=.pointer (some ⟨b,0,none⟩)∧w0.heap.size<=b∧FBL w b [z0,z1,z2,z3,z4]∧CalW w0 M L0 L1 L2 [r0,r1,r2,r3,r4] (listed.setIfInBounds 18 true) a (w5 w b r0 r1 r2 r3 r4):=by
 obtain⟨b,z0,z1,z2,z3,z4,e,hb,hf⟩:=h4;refine⟨b,z0,z1,z2,z3,z4,e,hb,hf,?_,?_,?_,?_,?_⟩
 ·rw[getD_set_ne false (show 18≠13 by decide),getD_set_ne false (show 18≠5 by decide)];exact h.b.st5 hb _ _ _ _ _
 ·rw[getD_set_ne false (show 18≠13 by decide),getD_set_ne false (show 18≠5 by decide)];exact h.o
 ·rw[getD_set_ne false (show 18≠16 by decide),getD_set_ne false (show 18≠17 by decide)];exact h.ne
 ·rw[getD_set_ne false (show 18≠16 by decide)];exact λ_=>h16
 ·exact λ_=>⟨b,hb,e,hf.st5 _ _ _ _ _⟩
end
def calS(op:Int)(l r:MCl)(st:MSt):MSt:=
 if l.kind≠1∨r.kind≠1 then stopS 3 (dropS 1 (dropS 1 st)) else if rkO op r.n=false then stopS 6 (dropS 1 (dropS 1 st)) else putS (rkC op l.n r.n) (dropS 1 (dropS 1 st))
theorem Bw.below{w X X':World}{M:Nat}{L:List Value}(h:Bw w X M L)(hb:Below X.heap.size X X'):Bw w X' M L:=⟨hb.os.trans h.os,hb.tape.trans h.tape,hb.output.trans h.output,Nat.le_trans h.size hb.size,λb h1 h2=>(hb.block b (Nat.lt_of_lt_of_le h1 h.size)).trans (h.block b h1 h2),h.lt,h.m.of_block (hb.block M (Nat.lt_of_lt_of_le h.lt h.size)) hb.size⟩
theorem drop2_eq{st:MSt}{s:List Int}{x y:Int}(hs:st.stack=s++[x,y]):dropS 1 (dropS 1 st)={st with stack:=st.stack.take s.length}:=by
 unfold dropS;simp[hs];rw[List.take_take,Nat.min_eq_left (by omega),List.take_left]
theorem calculate_any{lo:Nat}{w:World}{M Pb:Nat}{st:MSt}{B:List Nat}(op:Int)(hop:9<=op∧op<=14)(h:MM lo w M Pb st B)(hm:Mtr st)(hl:st.stack.length<=1000000000)(hcl:st.cells.length<=1000000000){s:List Int}{x y:Nat}(hs:st.stack=s++[(x:Int),(y:Int)])(hx:x<st.cells.length)(hy:y<st.cells.length):
 Calls Tryz.prog 169 #[.pointer (some ⟨M,0,none⟩),.int .i64 op] w λe w'=>MRes lo M Pb B w (calS op st.cells[x] st.cells[y] st) (.tuple #[]) e w':=by
 obtain⟨cs,ds,cv,sv,kv,dv,tv,h,hBe⟩:=h;have hsl:st.stack.length=s.length+2:=by rw[hs];simp
 obtain⟨sg,sc,rfl,hcap,hsc⟩:=stack_slice h.sk (by omega);obtain⟨cg,cc,lp,ln,lc,hcv,l0,l1,l2,l3,l4,-⟩:=h.cellAt (r:=x) hx;obtain⟨cg',cc',rp,rn,rc,hcv',r0,r1,r2,r3,r4,-⟩:=h.cellAt (r:=y) hy;obtain⟨rfl,rfl⟩:cg'=cg∧cc'=cc:=by rw[hcv]at hcv';cases hcv';exact⟨rfl,rfl⟩
 clear hcv';subst hcv;have hMc:cg'≠M:=λe=>(List.nodup_cons.1 h.nd).1 (List.mem_append_left _ (by rw[vB_slice];exact List.mem_singleton.2 e.symm));have hMs:sg≠M:=λe=>(List.nodup_cons.1 h.nd).1 (List.mem_append_right _ (List.mem_append_left _ (by rw[vB_slice];exact List.mem_singleton.2 e.symm)));have hxr:w.cell? ⟨sg,s.length+1,none⟩=some (.int .i32 (y:Int)):=by rw[hsc _ (by omega),hs];simp[rfC]
 have hxl:w.cell? ⟨sg,s.length,none⟩=some (.int .i32 (x:Int)):=by rw[hsc _ (by omega),hs];simp[rfC]
 rw[hsl]at hcap;obtain⟨L0,hL0⟩:∃L0,mL Pb (.slice (some ⟨cg',0,none⟩) st.cells.length cc') (.slice (some ⟨sg,0,none⟩) st.stack.length sc) kv dv tv st=L0:=⟨_,rfl⟩;have hB0:Bw w w M L0:=hL0▸Bw.start h;have q1:L0[1]?=some (.slice (some ⟨cg',0,none⟩) st.cells.length cc'):=by rw[<-hL0];rfl
 have q2:L0[2]?=some (.slice (some ⟨sg,0,none⟩) (s.length+1+1) sc):=by rw[<-hL0,show s.length+1+1=st.stack.length by omega];rfl
 have hlen:L0.length=14:=by rw[<-hL0];rfl
 have HFI:Hid (∀X,Bw w X M ((L0.set 2 (.slice (some ⟨sg,0,none⟩) (s.length+1) sc)).set 2 (.slice (some ⟨sg,0,none⟩) s.length sc))->MM lo X M Pb (dropS 1 (dropS 1 st)) B∧AG B w X):=λX hX=>by
  rw[List.set_set]at hX;have hX2:Bw w X M (mL Pb (.slice (some ⟨cg',0,none⟩) st.cells.length cc') (.slice (some ⟨sg,0,none⟩) s.length sc) kv dv tv {st with stack:=st.stack.take s.length}):=by
   rw[<-hL0]at hX;exact hX
  obtain⟨t1,t2,t3⟩:=h.less (m:=s.length) (by omega) hX2;rw[<-hBe]at t2;rw[drop2_eq hs];exact⟨⟨_,_,_,_,_,_,_,t1,by rw[t3,hBe]⟩,t2⟩
 have HSP:Hid (∀X k,Bw w X M ((L0.set 2 (.slice (some ⟨sg,0,none⟩) (s.length+1) sc)).set 2 (.slice (some ⟨sg,0,none⟩) s.length sc))->Calls Tryz.prog 110 #[.pointer (some ⟨M,0,none⟩),.int .i64 k] X λe w''=>e=.returned (.tuple #[])∧Hid (MRes lo M Pb B w (stopS k (dropS 1 (dropS 1 st))) (.tuple #[]) (.returned (.tuple #[])) w'')):=λX k hX=>by
  obtain⟨t1,t2⟩:=HFI.out X hX;exact(stop_any k t1).mono λe w'' hr=>⟨hr.1,hr.of t2 (λb hb=>Or.inl hb) rfl⟩
 have HPU:Hid (∀X k n,Bw w X M ((L0.set 2 (.slice (some ⟨sg,0,none⟩) (s.length+1) sc)).set 2 (.slice (some ⟨sg,0,none⟩) s.length sc))->Calls Tryz.prog 161 #[.pointer (some ⟨M,0,none⟩),.agg #[.int .u8 k,.int .i64 n,.int .i32 0,.int .i32 0,.slice none 0 0]] X λe w''=>e=.returned (.tuple #[])∧Hid (MRes lo M Pb B w (putS ⟨k,n,0,0,[]⟩ (dropS 1 (dropS 1 st))) (.tuple #[]) (.returned (.tuple #[])) w'')):=λX k n hX=>by
  obtain⟨t1,t2⟩:=HFI.out X hX;refine(put_any2 ⟨k,n,0,0,[]⟩ (.slice none 0 0) ⟨none,0,rfl,λi hi=>absurd hi (by simp)⟩ ⟨_,_,_,rfl⟩ t1 ⟨hm.su,hm.sm,hm.mu,hm.mm⟩ (by rw[drop2_eq hs];simp only[List.length_take];omega) hcl).mono λe w'' hr=>?_;have he:=hr.1;exact⟨he,hr.of t2 (λb hb=>Or.inl hb) rfl⟩
 have HS1:Hid (∀RL ls a X,CalW w M L0 (L0.set 2 (.slice (some ⟨sg,0,none⟩) (s.length+1) sc)) ((L0.set 2 (.slice (some ⟨sg,0,none⟩) (s.length+1) sc)).set 2 (.slice (some ⟨sg,0,none⟩) s.length sc)) RL ls a X->X.cell? ⟨M,1,none⟩=some (.slice (some ⟨cg',0,none⟩) st.cells.length cc')):=by
  intro RL ls a X hX;refine hX.b.m.at 1 ?_;split
  ·simp[q1]
  ·split
   ·simp[q1]
   ·exact q1
 have HP1:Hid (∀X,Bw w X M L0->Calls Tryz.prog 162 #[.pointer (some ⟨M,0,none⟩)] X λe w'=>e=.returned (.int .i32 (y:Int))∧w'=(X.setCell ⟨M,2,none⟩ (.slice (some ⟨sg,0,none⟩) (s.length+1) sc)).drew.drew):=λX hX=>popX (hX.m.at 2 q2) (hX.m.fz 2) (hX.cell hMs hxr) (by omega) (by omega);have HP2:Hid (∀X,Bw w X M (L0.set 2 (.slice (some ⟨sg,0,none⟩) (s.length+1) sc))->Calls Tryz.prog 162 #[.pointer (some ⟨M,0,none⟩)] X λe w'=>e=.returned (.int .i32 (x:Int))∧w'=(X.setCell ⟨M,2,none⟩ (.slice (some ⟨sg,0,none⟩) s.length sc)).drew.drew):=λX hX=>popX (hX.m.at 2 (by simp[hlen])) (hX.m.fz 2) (hX.cell hMs hxl) (by omega) (by omega);have HC:Hid (∀X L,Bw w X M L->(X.cell? ⟨cg',x*5,none⟩=some (.int .u8 st.cells[x].kind)∧X.cell? ⟨cg',x*5+1,none⟩=some (.int .i64 st.cells[x].n)∧X.cell? ⟨cg',x*5+2,none⟩=some (.int .i32 st.cells[x].left)∧X.cell? ⟨cg',x*5+3,none⟩=some (.int .i32 st.cells[x].right)∧X.cell? ⟨cg',x*5+4,none⟩=some (.slice lp ln lc))∧X.cell? ⟨cg',y*5,none⟩=some (.int .u8 st.cells[y].kind)∧X.cell? ⟨cg',y*5+1,none⟩=some (.int .i64 st.cells[y].n)∧X.cell? ⟨cg',y*5+2,none⟩=some (.int .i32 st.cells[y].left)∧X.cell? ⟨cg',y*5+3,none⟩=some (.int .i32 st.cells[y].right)∧X.cell? ⟨cg',y*5+4,none⟩=some (.slice rp rn rc)):=λX L hX=>⟨⟨hX.cell hMc l0,hX.cell hMc l1,hX.cell hMc l2,hX.cell hMc l3,hX.cell hMc l4⟩,hX.cell hMc r0,hX.cell hMc r1,hX.cell hMc r2,hX.cell hMc r3,hX.cell hMc r4⟩;have hl2:2<L0.length:=by omega
 have hxi:(x:Int)<(st.cells.length:Int):=by omega
 have hyi:(y:Int)<(st.cells.length:Int):=by omega
 have e1:w.drew.cell? ⟨M,1,none⟩=some (.slice (some ⟨cg',0,none⟩) st.cells.length cc'):=hB0.m.at 1 q1;generalize st.cells[x]=cl at*;generalize st.cells[y]=cr at*;obtain⟨lk,lN,la,lb,lf⟩:=cl;obtain⟨rk,rN,ra,rb,rf⟩:=cr;simp only at*;obtain⟨L1,hL1⟩:∃L1,L0.set 2 (.slice (some ⟨sg,0,none⟩) (s.length+1) sc)=L1:=⟨_,rfl⟩;obtain⟨L2,hL2⟩:∃L2,L1.set 2 (.slice (some ⟨sg,0,none⟩) s.length sc)=L2:=⟨_,rfl⟩;have hl3:2<L1.length:=by rw[<-hL1,List.length_set];exact hl2
 rw[hL1]at HSP HPU HS1 HP2 HFI;rw[hL2]at HSP HPU HS1 HFI;have HT1:Hid (∀X,Bw w X M L0->Bw w (X.setCell ⟨M,2,none⟩ (.slice (some ⟨sg,0,none⟩) (s.length+1) sc)).drew.drew M L1):=λX hX=>by rw[<-hL1];exact(hX.set2 hl2).drew.drew
 have HT2:Hid (∀X,Bw w X M L1->Bw w (X.setCell ⟨M,2,none⟩ (.slice (some ⟨sg,0,none⟩) s.length sc)).drew.drew M L2):=λX hX=>by rw[<-hL2];exact(hX.set2 hl3).drew.drew
 clear h hsc hBe hL0 q1 q2 hs hsl hcap hxr hxl l0 l1 l2 l3 l4 r0 r1 r2 r3 r4 hm hlen hcl hl hL1 hL2 HFI hl2 hl3;have hM0:=hB0.lt;go_enter Tryz.func169,Tryz.ntmps169;go_upto_region 0 with fail
 go_cut [4,5] (λv4 v5 wx=>∃b4 b5:Nat,v4=.pointer (some ⟨b4,0,none⟩)∧v5=.pointer (some ⟨b5,0,none⟩)∧(wx.cell? ⟨b4,0,none⟩=some (.int .u8 rk)∧wx.cell? ⟨b4,1,none⟩=some (.int .i64 rN)∧wx.cell? ⟨b5,0,none⟩=some (.int .u8 lk)∧wx.cell? ⟨b5,1,none⟩=some (.int .i64 lN))∧Hid (Bw w wx M L2))
 case first=>
  refine region_tail (S:=λw'=>w'.cell? ⟨M,1,none⟩=some (.slice (some ⟨cg',0,none⟩) st.cells.length cc')) 19 0 (by kernel_rfl) (by rfl) (by kernel_rfl) (by kernel_rfl) (by kernel_rfl) e1 (λhHeld=>?_);refine wpAnyH_takeD (i:=0) (d:=6) (v:=?_) rfl rfl (by kernel_rfl) (by kernel_rfl) (by kernel_rfl) (λ_ _ _ h=>h) (Or.inl ⟨by rfl,?_⟩) (by assumption) ?_;rotate_left
  ·intro w hSw;(try dsimp only at hSw);(go_simp<;>with_reducible rfl)
  simp only[Act.put,List.setIfInBounds_toArray,List.set_cons_zero,List.set_cons_succ];refine wpAnyH_takeD (i:=1) (d:=7) (v:=?_) rfl rfl (by kernel_rfl) (by kernel_rfl) (by kernel_rfl) (λ_ _ _ h=>h) (Or.inl ⟨by rfl,?_⟩) (by assumption) ?_;rotate_left
  ·intro w hSw;(try dsimp only at hSw);(go_simp<;>with_reducible rfl)
  simp only[Act.put,List.setIfInBounds_toArray,List.set_cons_zero,List.set_cons_succ];refine wpAnyH_takeD (i:=2) (d:=8) (v:=?_) rfl rfl (by kernel_rfl) (by kernel_rfl) (by kernel_rfl) (λ_ _ _ h=>h) (Or.inl ⟨by rfl,?_⟩) (by assumption) ?_;rotate_left
  ·intro w hSw;(try dsimp only at hSw);(go_simp<;>with_reducible rfl)
  simp only[Act.put,List.setIfInBounds_toArray,List.set_cons_zero,List.set_cons_succ];refine wpAnyH_takeD (i:=3) (d:=9) (v:=?_) rfl rfl (by kernel_rfl) (by kernel_rfl) (by kernel_rfl) (λ_ _ _ h=>h) (Or.inl ⟨by rfl,?_⟩) (by assumption) ?_;rotate_left
  ·intro w hSw;(try dsimp only at hSw);(go_simp<;>with_reducible rfl)
  simp only[Act.put,List.setIfInBounds_toArray,List.set_cons_zero,List.set_cons_succ];refine wpAnyH_takeD (i:=4) (d:=10) (v:=?_) rfl rfl (by kernel_rfl) (by kernel_rfl) (by kernel_rfl) (λ_ _ _ h=>h) (Or.inl ⟨by rfl,?_⟩) (by assumption) ?_;rotate_left
  ·intro w hSw;(try dsimp only at hSw);(go_simp<;>with_reducible rfl)
  simp only[Act.put,List.setIfInBounds_toArray,List.set_cons_zero,List.set_cons_succ];refine wpAnyH_takeD (i:=8) (d:=14) (v:=?_) rfl rfl (by kernel_rfl) (by kernel_rfl) (by kernel_rfl) (λ_ _ _ h=>h) (Or.inl ⟨by rfl,?_⟩) (by assumption) ?_;rotate_left
  ·intro w hSw;(try dsimp only at hSw);(go_simp<;>with_reducible rfl)
  simp only[Act.put,List.setIfInBounds_toArray,List.set_cons_zero,List.set_cons_succ];refine wpAnyH_takeD (i:=9) (d:=15) (v:=?_) rfl rfl (by kernel_rfl) (by kernel_rfl) (by kernel_rfl) (λ_ _ _ h=>h) (Or.inl ⟨by rfl,?_⟩) (by assumption) ?_;rotate_left
  ·intro w hSw;(try dsimp only at hSw);(go_simp<;>with_reducible rfl)
  simp only[Act.put,List.setIfInBounds_toArray,List.set_cons_zero,List.set_cons_succ];refine wpAnyH_takeD (i:=10) (d:=16) (v:=?_) rfl rfl (by kernel_rfl) (by kernel_rfl) (by kernel_rfl) (λ_ _ _ h=>h) (Or.inl ⟨by rfl,?_⟩) (by assumption) ?_;rotate_left
  ·intro w hSw;(try dsimp only at hSw);(go_simp<;>with_reducible rfl)
  simp only[Act.put,List.setIfInBounds_toArray,List.set_cons_zero,List.set_cons_succ];refine wpAnyH_takeD (i:=11) (d:=17) (v:=?_) rfl rfl (by kernel_rfl) (by kernel_rfl) (by kernel_rfl) (λ_ _ _ h=>h) (Or.inl ⟨by rfl,?_⟩) (by assumption) ?_;rotate_left
  ·intro w hSw;(try dsimp only at hSw);(go_simp<;>with_reducible rfl)
  simp only[Act.put,List.setIfInBounds_toArray,List.set_cons_zero,List.set_cons_succ];refine wpAnyH_takeD (i:=12) (d:=18) (v:=?_) rfl rfl (by kernel_rfl) (by kernel_rfl) (by kernel_rfl) (λ_ _ _ h=>h) (Or.inl ⟨by rfl,?_⟩) (by assumption) ?_;rotate_left
  ·intro w hSw;(try dsimp only at hSw);(go_simp<;>with_reducible rfl)
  simp only[Act.put,List.setIfInBounds_toArray,List.set_cons_zero,List.set_cons_succ];have HND:=calSl_nd w (.int .i32 (y:Int)) (.pointer (some ⟨cg',y*5,none⟩)) (.agg #[.int .u8 rk,.int .i64 rN,.int .i32 ra,.int .i32 rb,.slice rp rn rc]) (.int .i32 (x:Int)) (.pointer (some ⟨cg',x*5,none⟩)) (.agg #[.int .u8 lk,.int .i64 lN,.int .i32 la,.int .i32 lb,.slice lp ln lc]);refine wpAnyH_factsC (by kernel_rfl) (calSl w (.int .i32 (y:Int)) (.pointer (some ⟨cg',y*5,none⟩)) (.agg #[.int .u8 rk,.int .i64 rN,.int .i32 ra,.int .i32 rb,.slice rp rn rc]) (.int .i32 (x:Int)) (.pointer (some ⟨cg',x*5,none⟩)) (.agg #[.int .u8 lk,.int .i64 lN,.int .i32 la,.int .i32 lb,.slice lp ln lc])) _ HND.1 HND.2.1 HND.2.2 (calSl_all (by intro j hj;cases hj) (by intro j hj;obtain rfl:=List.mem_singleton.1 hj;kernel_rfl) (by intro j hj;obtain rfl:=List.mem_singleton.1 hj;kernel_rfl) (by intro j hj;obtain rfl:=List.mem_singleton.1 hj;kernel_rfl) (by intro j hj;obtain rfl:=List.mem_singleton.1 hj;kernel_rfl) (by intro j hj;obtain rfl:=List.mem_singleton.1 hj;kernel_rfl) (by intro j hj;cases hj) (by intro j hj;cases hj) (by intro j hj;simp only[List.mem_cons,List.not_mem_nil,or_false]at hj;rcases hj with rfl|rfl|rfl|rfl<;>kernel_rfl)) _ (calSl_all ?l1 ?l2 ?l3 ?l4 ?l5 ?l6 ?l7 ?l8 ?l9) (CalW w M L0 L1 L2 [.int .u8 rk,.int .i64 rN,.int .i32 ra,.int .i32 rb,.slice rp rn rc]) (λl a X hX=>HS1.out _ l a X hX) (calSl_all ?s5 ?s6 ?s7 ?s13 ?s14 ?s15 ?s16 ?s17 ?s18) 9 _ (by kernel_rfl) (Nat.le_of_eq (by kernel_rfl)) (by kernel_rfl) (calSl_all (by kernel_rfl) (by kernel_rfl) (by kernel_rfl) (by kernel_rfl) (by kernel_rfl) (by kernel_rfl) (by kernel_rfl) (by kernel_rfl) (by kernel_rfl)) ⟨?w0,(λh=>by cases h),(λh=>by cases h),(λh=>by cases h),(λh=>by cases h)⟩ ?done;case l1=>intro d hd;cases hd;show 11<_;simp
  case l2=>intro d hd;cases hd;show 12<_;simp
  case l3=>intro d hd;cases hd;show 13<_;simp
  case l4=>intro d hd;cases hd;show 19<_;simp
  case l5=>intro d hd;cases hd;show 20<_;simp
  case l6=>intro d hd;cases hd;show 21<_;simp
  case l7=>intro d hd;cases hd;show 4<_;simp
  case l8=>intro d hd;cases hd;show 5<_;simp
  case l9=>intro d hd;cases hd
  case w0=>exact hB0.drew
  case s5=>
   refine⟨_,rfl,rfl,rfl,λls a X hsz hA hu hnl hW hGv=>?_⟩;obtain⟨hb,hnx⟩:=hW.pop1 (by rw[hsz];decide) hu (d:=11) (by decide) (.int .i32 (y:Int));have e10:a.tmps[10]?.getD undef=.pointer (some ⟨M,0,none⟩):=by rw[hA.it 10 (by decide)];rfl
   refine wp_enter (f:=162) (args:=#[.pointer (some ⟨M,0,none⟩)]) ?_ ?_
   ·clear hW hGv hb hnx hnl hu hA;go_simp
   ·refine(HP1.out X hb).mono ?_;rintro e w2 ⟨rfl,hw2⟩;have hk:=bw_new (w0:=w) hw2 hM0;have hz:X.heap.size<=w2.heap.size:=by rw[hw2];simp
    exact⟨_,rfl,_,rfl,hnx w2 (by rw[hw2];exact HT1.out X hb) hk hz,rfl,calSl_keep (λv hv=>hv.keep (λb h1 _=>hk b h1) hz) _⟩
  case s13=>
   refine⟨_,rfl,rfl,rfl,λls a X hsz hA hu hnl hW hGv=>?_⟩;obtain⟨hb,hnx⟩:=hW.pop2 (by rw[hsz];decide) hu (hnl 5 (by simp)) (d:=19) (by decide) (.int .i32 (x:Int));have e18:a.tmps[18]?.getD undef=.pointer (some ⟨M,0,none⟩):=by rw[hA.it 18 (by decide)];rfl
   refine wp_enter (f:=162) (args:=#[.pointer (some ⟨M,0,none⟩)]) ?_ ?_
   ·clear hW hGv hb hnx hnl hu hA;go_simp
   ·refine(HP2.out X hb).mono ?_;rintro e w2 ⟨rfl,hw2⟩;have hk:=bw_new (w0:=w) hw2 hM0;have hz:X.heap.size<=w2.heap.size:=by rw[hw2];simp
    exact⟨_,rfl,_,rfl,hnx w2 (by rw[hw2];exact HT2.out X hb) hk hz,rfl,calSl_keep (λv hv=>hv.keep (λb h1 _=>hk b h1) hz) _⟩
  case s6=>
   refine⟨_,rfl,rfl,rfl,λls a X hsz hA hu hnl hW hGv=>?_⟩;have e9:a.tmps[9]?.getD undef=.slice (some ⟨cg',0,none⟩) st.cells.length cc':=by rw[hA.it 9 (by decide)];rfl
   have e11:a.tmps[11]?.getD undef=(.int .i32 (y:Int)):=by
    have h1:=hGv ⟨5,some 11,[],λv _=>v=(.int .i32 (y:Int))⟩ (by simp[calSl]) (hnl 5 (by simp));rw[<-Array.getD_eq_getD_getElem?];exact h1
   refine wp_val (v:=(.pointer (some ⟨cg',y*5,none⟩))) (w':=X) ?_ ⟨_,rfl,hW.quiet (i:=6) (d:=12) (by decide) (by decide) _,rfl,λt' _ _ u hu=>hu⟩;clear hW hGv hnl hu hA;go_simp
  case s14=>
   refine⟨_,rfl,rfl,rfl,λls a X hsz hA hu hnl hW hGv=>?_⟩;have e17:a.tmps[17]?.getD undef=.slice (some ⟨cg',0,none⟩) st.cells.length cc':=by rw[hA.it 17 (by decide)];rfl
   have e19:a.tmps[19]?.getD undef=(.int .i32 (x:Int)):=by
    have h1:=hGv ⟨13,some 19,[5],λv _=>v=(.int .i32 (x:Int))⟩ (by simp[calSl]) (hnl 13 (by simp));rw[<-Array.getD_eq_getD_getElem?];exact h1
   refine wp_val (v:=(.pointer (some ⟨cg',x*5,none⟩))) (w':=X) ?_ ⟨_,rfl,hW.quiet (i:=14) (d:=20) (by decide) (by decide) _,rfl,λt' _ _ u hu=>hu⟩;clear hW hGv hnl hu hA;go_simp
  case s7=>
   refine⟨_,rfl,rfl,rfl,λls a X hsz hA hu hnl hW hGv=>?_⟩;have e12:a.tmps[12]?.getD undef=(.pointer (some ⟨cg',y*5,none⟩)):=by
    have h1:=hGv ⟨6,some 12,[5],λv _=>v=(.pointer (some ⟨cg',y*5,none⟩))⟩ (by simp[calSl]) (hnl 6 (by simp));rw[<-Array.getD_eq_getD_getElem?];exact h1
   obtain⟨-,c0,c1,c2,c3,c4⟩:=HC.out X _ hW.b;refine wp_val (v:=(.agg #[.int .u8 rk,.int .i64 rN,.int .i32 ra,.int .i32 rb,.slice rp rn rc])) (w':=X) ?_ ⟨_,rfl,hW.quiet (i:=7) (d:=13) (by decide) (by decide) _,rfl,λt' _ _ u hu=>hu⟩;clear hW hGv hnl hu hA;go_simp
  case s15=>
   refine⟨_,rfl,rfl,rfl,λls a X hsz hA hu hnl hW hGv=>?_⟩;have e20:a.tmps[20]?.getD undef=(.pointer (some ⟨cg',x*5,none⟩)):=by
    have h1:=hGv ⟨14,some 20,[13],λv _=>v=(.pointer (some ⟨cg',x*5,none⟩))⟩ (by simp[calSl]) (hnl 14 (by simp));rw[<-Array.getD_eq_getD_getElem?];exact h1
   obtain⟨⟨c0,c1,c2,c3,c4⟩,-⟩:=HC.out X _ hW.b;refine wp_val (v:=(.agg #[.int .u8 lk,.int .i64 lN,.int .i32 la,.int .i32 lb,.slice lp ln lc])) (w':=X) ?_ ⟨_,rfl,hW.quiet (i:=15) (d:=21) (by decide) (by decide) _,rfl,λt' _ _ u hu=>hu⟩;clear hW hGv hnl hu hA;go_simp
  case s16=>
   refine⟨_,rfl,rfl,rfl,λls a X hsz hA hu hnl hW hGv=>?_⟩;refine wp_val (v:=.pointer (some ⟨X.heap.size,0,none⟩)) (w':=X.alloc (.cells #[.int .u8 0,.int .i64 0,.int .i32 0,.int .i32 0,.slice none 0 0] 158)) ?_ ⟨_,rfl,hW.new4 hu (by rw[hA.size];simp) (λh1=>hGv ⟨17,some 5,[],GZ w⟩ (by simp[calSl]) h1) _,GZ.new w hW.b.size _,calSl_keep (λv hv=>hv.keep (λb _ h2=>heap_alloc_old X _ h2) (by simp)) _⟩;clear hW hGv hnl hu hA;go_simp
  case s17=>
   refine⟨_,rfl,rfl,rfl,λls a X hsz hA hu hnl hW hGv=>?_⟩;refine wp_val (v:=.pointer (some ⟨X.heap.size,0,none⟩)) (w':=X.alloc (.cells #[.int .u8 0,.int .i64 0,.int .i32 0,.int .i32 0,.slice none 0 0] 158)) ?_ ⟨_,rfl,hW.new5 (by rw[hA.size];simp) (λh1=>hGv ⟨16,some 4,[],GZ w⟩ (by simp[calSl]) h1) _,GZ.new w hW.b.size _,calSl_keep (λv hv=>hv.keep (λb _ h2=>heap_alloc_old X _ h2) (by simp)) _⟩;clear hW hGv hnl hu hA;go_simp
  case s18=>
   refine⟨_,rfl,rfl,rfl,λls a X hsz hA hu hnl hW hGv=>?_⟩;obtain⟨b,z0,z1,z2,z3,z4,e4,hb,hf,hCW⟩:=hW.stored (hnl 16 (by simp)) (hGv ⟨16,some 4,[],GZ w⟩ (by simp[calSl]) (hnl 16 (by simp)));have e4':a.tmps[4]?.getD undef=.pointer (some ⟨b,0,none⟩):=by rw[<-Array.getD_eq_getD_getElem?];exact e4
   have e13:a.tmps[13]?.getD undef=(.agg #[.int .u8 rk,.int .i64 rN,.int .i32 ra,.int .i32 rb,.slice rp rn rc]):=by
    have h1:=hGv ⟨7,some 13,[6],λv _=>v=(.agg #[.int .u8 rk,.int .i64 rN,.int .i32 ra,.int .i32 rb,.slice rp rn rc])⟩ (by simp[calSl]) (hnl 7 (by simp));rw[<-Array.getD_eq_getD_getElem?];exact h1
   have d0:=hf.at 0 rfl;have d1:=hf.at 1 rfl;have d2:=hf.at 2 rfl;have d3:=hf.at 3 rfl;have d4:=hf.at 4 rfl;have f0:=hf.fz 0;have f1:=hf.fz 1;have f2:=hf.fz 2;have f3:=hf.fz 3;have f4:=hf.fz 4;refine wp_skip (w':=w5 X b (.int .u8 rk) (.int .i64 rN) (.int .i32 ra) (.int .i32 rb) (.slice rp rn rc)) ?_ ⟨_,rfl,hCW,trivial,calSl_keep (λv hv=>hv.st5 hf _ _ _ _ _) _⟩;clear hW hGv hnl hu hA hCW hf;unfold w5;go_simp
  case done=>
   intro ls a X hall hA hW hGv;have t18:=hall 18 (by decide);have t13:=hall 13 (by decide);obtain⟨b4,hb4,e4,hf4⟩:=hW.st t18;have hne:=hW.ne (hall 16 (by decide)) (hall 17 (by decide));obtain⟨b5,z0,z1,z2,z3,z4,e5,hb5,hf5⟩:GZ w (a.eval (.tmp 5)) X:=hGv ⟨17,some 5,[],GZ w⟩ (by simp[calSl]);have e21:a.eval (.tmp 21)=(.agg #[.int .u8 lk,.int .i64 lN,.int .i32 la,.int .i32 lb,.slice lp ln lc]):=hGv ⟨15,some 21,[14],λv _=>v=(.agg #[.int .u8 lk,.int .i64 lN,.int .i32 la,.int .i32 lb,.slice lp ln lc])⟩ (by simp[calSl]);have hBX:=hW.b;rw[t13,if_pos rfl]at hBX;have h45:b4≠b5:=λe=>hne (by rw[e4,e5,e]);have hlit:=agree_lit hA;simp only[List.foldl_cons,List.foldl_nil]at hlit;rw[e4,e5,e21]at hlit;generalize a.eval (.tmp 11)=y11 at hlit;generalize a.eval (.tmp 12)=y12 at hlit;generalize a.eval (.tmp 13)=y13 at hlit;generalize a.eval (.tmp 19)=y19 at hlit;generalize a.eval (.tmp 20)=y20 at hlit;simp only[Act.put,List.setIfInBounds_toArray,List.set_cons_zero,List.set_cons_succ]at hlit;clear hA hGv hall hW hne e4 e5 e21 t18 t13;subst hlit;have d0:=hf5.at 0 rfl;have d1:=hf5.at 1 rfl;have d2:=hf5.at 2 rfl;have d3:=hf5.at 3 rfl;have d4:=hf5.at 4 rfl;have f0:=hf5.fz 0;have f1:=hf5.fz 1;have f2:=hf5.fz 2;have f3:=hf5.fz 3;have f4:=hf5.fz 4;have HF4:=hid (hf4.off5 h45 (.int .u8 lk) (.int .i64 lN) (.int .i32 la) (.int .i32 lb) (.slice lp ln lc));have HF5:=hid (hf5.st5 (.int .u8 lk) (.int .i64 lN) (.int .i32 la) (.int .i32 lb) (.slice lp ln lc));have HBX:=hid (hBX.st5 hb5 (.int .u8 lk) (.int .i64 lN) (.int .i32 la) (.int .i32 lb) (.slice lp ln lc));clear hf4 hf5 hBX HND;refine tail1 ?_;refine wpOp_step (o:=⟨none,.store _ (.tmp 5) (.tmp 21),0,_,_,none⟩) rfl (λK1 hK1=>?_);go_simp;refine hK1 _ _ ?_;(try go_wp2)
   go_meet
   exact⟨b4,b5,rfl,rfl,⟨HF4.out.at 0 rfl,HF4.out.at 1 rfl,HF5.out.at 0 rfl,HF5.out.at 1 rfl⟩,HBX.out⟩
 case rest=>
  clear HP1 HP2 HS1 hB0 HC HT1 HT2 e1 hMc hMs;rename World=>wx
  obtain⟨b4,b5,rfl,rfl,⟨c0,c1,d0,d1⟩,HBX⟩:=hcut;have HST:=hid (λk=>HSP.out wx k HBX.out);have HPT:=hid (λk n=>HPU.out wx k n HBX.out);by_cases hbad:lk≠1∨rk≠1
  ·have HRS:Hid (calS op ⟨lk,lN,la,lb,lf⟩ ⟨rk,rN,ra,rb,rf⟩ st=stopS 3 (dropS 1 (dropS 1 st))):=by
    show _=_;unfold calS;rw[if_pos hbad]
   have HS3:=hid (HST.out 3);clear HSP HPU HST HPT HBX;by_cases h1:lk=1
   ·have h2:¬rk=1:=by omega
    subst h1;go_wp2_with (first
     |(go_at_call 110;refine HS3.out.mono ?_;rintro e w5 ⟨rfl,HRR⟩))
    refine bE ?_;rw[HRS.out];exact HRR.out
   ·go_wp2_with (first
     |(go_at_call 110;refine HS3.out.mono ?_;rintro e w5 ⟨rfl,HRR⟩))
    refine bE ?_;rw[HRS.out];exact HRR.out
  ·obtain rfl:lk=1:=by omega
   obtain rfl:rk=1:=by omega
   have HCS:Hid (rkO op rN=true->calS op ⟨1,lN,la,lb,lf⟩ ⟨1,rN,ra,rb,rf⟩ st=putS (rkC op lN rN) (dropS 1 (dropS 1 st))):=by
    show _->_;intro ho;unfold calS;rw[if_neg hbad,if_neg (by simp[ho])]
   by_cases h12:op=12
   ·subst h12;by_cases hr0:rN=0
    ·subst hr0;have HRS:Hid (calS 12 ⟨1,lN,la,lb,lf⟩ ⟨1,0,ra,rb,rf⟩ st=stopS 6 (dropS 1 (dropS 1 st))):=by
      show _=_;unfold calS;rw[if_neg hbad,if_pos (by simp[rkO])]
     have HS6:=hid (HST.out 6);clear HSP HPU HST HPT HBX HCS hbad;go_wp2_with (first
      |(go_at_call 110;refine HS6.out.mono ?_;rintro e w5 ⟨rfl,HRR⟩))
     refine bE ?_;rw[HRS.out];exact HRR.out
    ·have HP:=hid (HPT.out 1 (rkN 12 lN rN));have e12:rkN 12 lN rN=wrap64 (lN.tdiv rN):=by simp[rkN,hr0]
     rw[e12]at HP;have HRS:Hid (calS 12 ⟨1,lN,la,lb,lf⟩ ⟨1,rN,ra,rb,rf⟩ st=putS ⟨1,wrap64 (lN.tdiv rN),0,0,[]⟩ (dropS 1 (dropS 1 st))):=by
      show _=_;rw[HCS.out (by simp[rkO,hr0]),<-e12];rfl
     clear HSP HPU HST HPT HBX HCS hbad e12;go_wp2_with (first
      |(go_at_call 161;refine HP.out.mono ?_;rintro e w5 ⟨rfl,HRR⟩))
     refine bE ?_;rw[HRS.out];exact HRR.out
   ·have ho:rkO op rN=true:=by simp[rkO,h12]
    have HRS:=hid (HCS.out ho);rcases(show op=9∨op=10∨op=11∨op=13∨op=14 by omega) with rfl|rfl|rfl|rfl|rfl
    ·have HP:=hid (HPT.out 1 (wrap64 (lN+rN)));have HRS2:Hid (calS 9 ⟨1,lN,la,lb,lf⟩ ⟨1,rN,ra,rb,rf⟩ st=putS ⟨1,wrap64 (lN+rN),0,0,[]⟩ (dropS 1 (dropS 1 st))):=HRS.out;clear HSP HPU HST HPT HBX HCS hbad HRS;go_wp2_with (first
      |(go_at_call 161;refine HP.out.mono ?_;rintro e w5 ⟨rfl,HRR⟩))
     refine bE ?_;rw[HRS2.out];exact HRR.out
    ·have HP:=hid (HPT.out 1 (wrap64 (lN-rN)));have HRS2:Hid (calS 10 ⟨1,lN,la,lb,lf⟩ ⟨1,rN,ra,rb,rf⟩ st=putS ⟨1,wrap64 (lN-rN),0,0,[]⟩ (dropS 1 (dropS 1 st))):=HRS.out;clear HSP HPU HST HPT HBX HCS hbad HRS;go_wp2_with (first
      |(go_at_call 161;refine HP.out.mono ?_;rintro e w5 ⟨rfl,HRR⟩))
     refine bE ?_;rw[HRS2.out];exact HRR.out
    ·have HP:=hid (HPT.out 1 (wrap64 (lN*rN)));have HRS2:Hid (calS 11 ⟨1,lN,la,lb,lf⟩ ⟨1,rN,ra,rb,rf⟩ st=putS ⟨1,wrap64 (lN*rN),0,0,[]⟩ (dropS 1 (dropS 1 st))):=HRS.out;clear HSP HPU HST HPT HBX HCS hbad HRS;go_wp2_with (first
      |(go_at_call 161;refine HP.out.mono ?_;rintro e w5 ⟨rfl,HRR⟩))
     refine bE ?_;rw[HRS2.out];exact HRR.out
    ·by_cases hc:lN=rN
     ·subst hc;have HTR:=hid (truth_any true wx);have HPX:=hid (λX (hb:Below wx.heap.size wx X)=>HPU.out X 3 1 (HBX.out.below hb));have HRS2:Hid (calS 13 ⟨1,lN,la,lb,lf⟩ ⟨1,lN,ra,rb,rf⟩ st=putS ⟨3,1,0,0,[]⟩ (dropS 1 (dropS 1 st))):=by
       show _=_;rw[HRS.out];unfold rkC;simp[rkN,rkR]
      clear HSP HPU HST HPT HBX HCS hbad HRS;go_wp2_with (first
       |(go_at_call 221;refine HTR.out.mono ?_;rintro e w4 ⟨rfl,hb4⟩;have HP:=hid (HPX.out w4 hb4);clear hb4 HPX)
       |(go_at_call 161;refine HP.out.mono ?_;rintro e w5 ⟨rfl,HRR⟩))
      refine bE ?_;rw[HRS2.out];exact HRR.out
     ·have hc2:(lN==rN)=false:=by simpa using hc
      have HTR:=hid (truth_any false wx);have HPX:=hid (λX (hb:Below wx.heap.size wx X)=>HPU.out X 3 0 (HBX.out.below hb));have HRS2:Hid (calS 13 ⟨1,lN,la,lb,lf⟩ ⟨1,rN,ra,rb,rf⟩ st=putS ⟨3,0,0,0,[]⟩ (dropS 1 (dropS 1 st))):=by
       show _=_;rw[HRS.out];unfold rkC;simp[rkN,rkR,hc]
      clear HSP HPU HST HPT HBX HCS hbad HRS;go_wp2_with (first
       |(go_at_call 221;refine HTR.out.mono ?_;rintro e w4 ⟨rfl,hb4⟩;have HP:=hid (HPX.out w4 hb4);clear hb4 HPX)
       |(go_at_call 161;refine HP.out.mono ?_;rintro e w5 ⟨rfl,HRR⟩))
      refine bE ?_;rw[HRS2.out];exact HRR.out
    ·by_cases hc:lN<rN
     ·have HTR:=hid (truth_any true wx);have HPX:=hid (λX (hb:Below wx.heap.size wx X)=>HPU.out X 3 1 (HBX.out.below hb));have HRS2:Hid (calS 14 ⟨1,lN,la,lb,lf⟩ ⟨1,rN,ra,rb,rf⟩ st=putS ⟨3,1,0,0,[]⟩ (dropS 1 (dropS 1 st))):=by
       show _=_;rw[HRS.out];unfold rkC;simp[rkN,rkR,hc]
      clear HSP HPU HST HPT HBX HCS hbad HRS;go_wp2_with (first
       |(go_at_call 221;refine HTR.out.mono ?_;rintro e w4 ⟨rfl,hb4⟩;have HP:=hid (HPX.out w4 hb4);clear hb4 HPX)
       |(go_at_call 161;refine HP.out.mono ?_;rintro e w5 ⟨rfl,HRR⟩))
      refine bE ?_;rw[HRS2.out];exact HRR.out
     ·have HTR:=hid (truth_any false wx);have HPX:=hid (λX (hb:Below wx.heap.size wx X)=>HPU.out X 3 0 (HBX.out.below hb));have HRS2:Hid (calS 14 ⟨1,lN,la,lb,lf⟩ ⟨1,rN,ra,rb,rf⟩ st=putS ⟨3,0,0,0,[]⟩ (dropS 1 (dropS 1 st))):=by
       show _=_;rw[HRS.out];unfold rkC;simp[rkN,rkR,hc]
      clear HSP HPU HST HPT HBX HCS hbad HRS;go_wp2_with (first
       |(go_at_call 221;refine HTR.out.mono ?_;rintro e w4 ⟨rfl,hb4⟩;have HP:=hid (HPX.out w4 hb4);clear hb4 HPX)
       |(go_at_call 161;refine HP.out.mono ?_;rintro e w5 ⟨rfl,HRR⟩))
      refine bE ?_;rw[HRS2.out];exact HRR.out
theorem doCal_any{lo:Nat}{w:World}{M Pb:Nat}{st:MSt}{B:List Nat}(h:MM lo w M Pb st B)(hm:Mtr st)(hsb:stepM st=true){k:Nat}(hat:st.fr.at_=(k:Int))(hk:k<st.fr.code.length)(hkb:k<=1000000000){op:Int}(hop:st.fr.code[k].op=op)(h9:9<=op∧op<=14)(hl:st.stack.length<=1000000000)(hcl:st.cells.length<=1000000000){s:List Int}{x y:Nat}(hs:st.stack=s++[(x:Int),(y:Int)])(hx:x<st.cells.length)(hy:y<st.cells.length):
 Calls Tryz.prog 108 #[.pointer (some ⟨M,0,none⟩)] w λe w'=>MRes lo M Pb B w (calS op st.cells[x] st.cells[y] (nextS (stepS st))) (.tuple #[]) e w':=by
 have HS:=hid (step_any h hm);rw[hsb]at HS;have HNX:Hid (∀w1 B1,AG B w w1->MM lo w1 M Pb (stepS st) B1->(∀b∈B1,b∈B∨w.heap.size<=b)->∃b n c:Nat,(k:Int)<(n:Int)∧w1.cell? ⟨M,4,none⟩=some (.slice (some ⟨b,0,none⟩) n c)∧w1.cell? ⟨M,5,none⟩=some (.int .i64 (k:Int))∧w1.frozen? ⟨M,5,none⟩=false∧(w1.setCell ⟨M,5,none⟩ (.int .i64 ((k:Int)+1))).cell? ⟨b,k*3,none⟩=some (.int .i64 op)∧Calls Tryz.prog 169 #[.pointer (some ⟨M,0,none⟩),.int .i64 op] (w1.setCell ⟨M,5,none⟩ (.int .i64 ((k:Int)+1))).drew λe w'=>e=.returned (.tuple #[])∧Hid (MRes lo M Pb B w (calS op st.cells[x] st.cells[y] (nextS (stepS st))) (.tuple #[]) (.returned (.tuple #[])) w')):=by
  intro w1 B1 hag hM hB1;have hat':(stepS st).fr.at_=(k:Int):=by rw[stepS_ok hsb];exact hat
  have hcd:(stepS st).fr.code=st.fr.code:=by rw[stepS_ok hsb]
  obtain⟨b,n,c,ap,an,ac,hkn,e4,e5,f5,⟨c0,c1,c2⟩,-,-,hN,hA⟩:=hM.next (k:=k) hat' (by rw[hcd];exact hk);simp only[hcd]at c0 c1;refine⟨b,n,c,by omega,e4,e5,f5,by rw[<-hop];exact c0,?_⟩;have hA1:=(hag.trans hA hB1).then (Below.refl _ _).drew;have hst:(nextS (stepS st)).stack=st.stack∧(nextS (stepS st)).cells=st.cells:=by rw[stepS_ok hsb];exact⟨rfl,rfl⟩
  have hmt:Mtr (nextS (stepS st)):=by
   rw[stepS_ok hsb];obtain⟨m1,m2,m3,m4⟩:=hm;have:=of_decide_eq_true hsb;exact⟨by show 0<=st.su+1∧st.su+1<=st.sm;omega,m2,m3,m4⟩
  have hcal:=calculate_any op h9 (hN.keep (Below.refl _ _).drew) hmt (by rw[hst.1];exact hl) (by rw[hst.2];exact hcl) (s:=s) (x:=x) (y:=y) (by rw[hst.1];exact hs) (by rw[hst.2];exact hx) (by rw[hst.2];exact hy);simp only[hst.2]at hcal;refine hcal.mono ?_;intro e w' hr;have he:=hr.1;exact⟨he,hr.of hA1 hB1 rfl⟩
 clear h hsb hm hat hs hl hcl;rcases(show op=9∨op=10∨op=11∨op=12∨op=13∨op=14 by omega) with rfl|rfl|rfl|rfl|rfl|rfl;all_goals
  go_enter Tryz.func108,Tryz.ntmps108;go_wp2_with (first
   |(go_at_call 55;refine HS.out.mono ?_;rintro e w1 ⟨rfl,hag,B1,hM1,hB1⟩;obtain⟨b,n,c,hkn,e4,e5,f5,c0,hcall⟩:=HNX.out w1 B1 hag hM1 hB1;have HCL:=hid hcall;clear hag hM1 hB1 hcall))
  go_region
  go_wp2_with (first
   |(go_at_call 169;refine HCL.out.mono ?_;rintro e w2 ⟨rfl,HRR⟩))
  refine bE ?_;exact HRR.out
def mO(code:List LIns)(cells:List MCl)(stack:List Int)(at_ su mu state kind:Int)(text:List UInt8):MSt:=⟨cells,stack,⟨0,code,at_⟩,[],su,2000000,mu,2000000,state,kind,text⟩
def e4:MCl:=⟨4,0,0,0,[]⟩
def e5:MCl:=⟨5,0,3,0,[]⟩
def eI(v:Int):MCl:=⟨1,v,0,0,[]⟩
def eR(n:OpN):MCl:=rkC (9+(n.k:Int)) n.a n.b
section
variable (n:OpN)
def t0:MSt:=mO [] [e4] [0] 0 0 0 0 0 []
def t1:MSt:=mO (codeO n) [e4] [0] 0 1 0 0 0 []
def t2:MSt:=mO (codeO n) [e4,eI n.a] [0,1] 1 2 1 0 0 []
def t3:MSt:=mO (codeO n) [e4,eI n.a,eI n.b] [0,1,2] 2 3 2 0 0 []
def t4:MSt:=mO (codeO n) [e4,eI n.a,eI n.b,eR n] [0,3] 3 4 3 0 0 []
def tz:MSt:=mO (codeO n) [e4,eI n.a,eI n.b] [0] 3 4 2 2 6 []
def t5:MSt:=mO (codeO n) [e5,eI n.a,eI n.b,eR n] [0] 4 5 3 0 0 []
def t5':MSt:=mO (codeO n) [e5,eI n.a,eI n.b,eR n] [0] 5 6 3 0 0 []
def t6:MSt:=mO (codeO n) [e5,eI n.a,eI n.b,eR n] [3] 5 8 3 1 0 []
def EO(_:Int)(st:MSt):MSt:=enter0S (codeO n) st
def tE:MSt:=if rkO (9+(n.k:Int)) n.b then t6 n else tz n
def JO(st:MSt):Prop:=st=t1 n∨st=t2 n∨st=t3 n∨(st=t4 n∧rkO (9+(n.k:Int)) n.b=true)∨(st=t5 n∧rkO (9+(n.k:Int)) n.b=true)∨st=tE n
theorem tO_begin:beginS 0 (newSt 1 2000000 2000000)=t0:=rfl
theorem tO_look0:lookS (EO n) giveS (t0.sm-t0.su).toNat t0=t1 n:=by kernel_rfl
theorem tO_cal:calS (9+(n.k:Int)) (eI n.a) (eI n.b) (nextS (stepS (t3 n)))=if rkO (9+(n.k:Int)) n.b then t4 n else tz n:=by
 unfold calS;rw[if_neg (by simp[eI])];show(if rkO (9+(n.k:Int)) n.b=false then _ else _)=_;cases rkO (9+(n.k:Int)) n.b<;>rfl
theorem tO_do5:updS 0 3 (dropS 1 (nextS (stepS (t4 n))))=t5 n:=rfl
theorem tO_do19:nextS (stepS (t5 n))=t5' n:=rfl
theorem eR_kind:(eR n).kind=1∨(eR n).kind=3:=by
 show(if rkR (9+(n.k:Int)) then (3:Int) else 1)=1∨(if rkR (9+(n.k:Int)) then (3:Int) else 1)=3;cases rkR (9+(n.k:Int))
 ·exact Or.inl rfl
 ·exact Or.inr rfl
end
theorem tO_look1{n:OpN}(hk:n.k<6):lookS (EO n) giveS ((t5' n).sm-(t5' n).su).toNat (t5' n)=t6 n:=by
 obtain⟨k,a,b⟩:=n;rcases six hk with rfl|rfl|rfl|rfl|rfl|rfl<;>kernel_rfl
theorem mtrO(k c s a su mu t x y)(h:0<=su∧su<=9)(h2:0<=mu∧mu<=3):Mtr (mO k c s a su mu t x y):=⟨by simp[mO];omega,by simp[mO],by simp[mO];omega,by simp[mO]⟩
theorem muO{k c s a su mu t x y k' c' s' a' su' mu' t' x' y'}(h:2*((2000000:Int)-su).toNat+(if t=0 then 1 else 0)<2*((2000000:Int)-su').toNat+(if t'=0 then 1 else 0)):muS (mO k c s a su mu t x y)<muS (mO k' c' s' a' su' mu' t' x' y'):=h
theorem wfO0:Wf 1 t0:=⟨by simp[t0,mO],by simp[t0,mO,e4],by simp[t0,mO,e4],by simp[t0,mO],by simp[t0,mO],by simp[t0,mO],mtrO _ _ _ _ _ _ _ _ _ (by omega) (by omega)⟩
theorem wfO5(n:OpN):Wf 1 (t5' n):=by
 refine⟨by simp[t5',mO],by simp[t5',mO],λx hx=>?_,by simp[t5',mO],by simp[t5',mO],by simp[t5',mO],mtrO _ _ _ _ _ _ _ _ _ (by omega) (by omega)⟩;have hx':x∈[e5,eI n.a,eI n.b,eR n]:=hx;simp only[List.mem_cons,List.not_mem_nil,or_false]at hx';rcases hx' with rfl|rfl|rfl|rfl
 ·simp[t5',mO,e5]
 ·simp[eI]
 ·simp[eI]
 ·rcases eR_kind n with h|h<;>rw[h]<;>simp
theorem lookO{n:OpN}{lo:Nat}{w:World}{M Pb:Nat}{st:MSt}{B:List Nat}{gp:Option Addr}{gc:Nat}{G:Nat->Int×Option Addr×Nat×Nat}(h:MM lo w M Pb st B)(hP:Pg lo w Pb 1 gp gc G)(hG:(G 0).1=0)(hC:CdAt lo w (.slice (G 0).2.1 (G 0).2.2.1 (G 0).2.2.2) (codeO n))(hW:Wf 1 st)(hd:st.dump=[]):
 Calls Tryz.prog 107 #[.pointer (some ⟨M,0,none⟩)] w λe w'=>MRes lo M Pb B w (lookS (EO n) giveS (st.sm-st.su).toNat st) (.tuple #[]) e w':=by
 refine look_any2 (EO n) giveS (λst=>st.dump=[]) h hP hW hd (λst h=>h) (λst x h=>h) (λst x h=>h) (λi hi w' st' B' hM hb hI _ hs=>?_) (λx w' st' B' hM hI _ hs=>?_)
 ·obtain rfl:i=0:=by omega
  rw[hG];exact enter0_any (codeO n) _ _ _ (hC.fr hb) hM (by omega) ⟨hs.1,hs.2.1⟩
 ·exact give0_any x st'.fr.base.toNat hM hI (by omega) (by omega) (by omega)
theorem evaluateO{n:OpN}(hk:n.k<6){lo:Nat}{w:World}{M Pb:Nat}{B:List Nat}{gp:Option Addr}{gc:Nat}{G:Nat->Int×Option Addr×Nat×Nat}(h:MM lo w M Pb (newSt 1 2000000 2000000) B)(hP:Pg lo w Pb 1 gp gc G)(hG:(G 0).1=0)(hC:CdAt lo w (.slice (G 0).2.1 (G 0).2.2.1 (G 0).2.2.2) (codeO n)):
 Calls Tryz.prog 54 #[.pointer (some ⟨M,0,none⟩),.int .i32 0] w λe w'=>MRes lo M Pb B w (tE n) (evV (tE n)) e w':=by
 refine(evaluate_any 0 (JO n) h (λw' B' hM hb=>?_) (λw' st' B' hj hs hM hb=>?_) (λst' hj h0 h2=>?_)).mono ?_
 ·rw[tO_begin]at hM;refine(lookO hM (hP.low hb) hG (hC.fr hb) wfO0 rfl).mono λe w'' hr=>?_;rw[tO_look0]at hr;exact⟨t1 n,Or.inl rfl,hr⟩
 ·rcases hj with rfl|rfl|rfl|⟨rfl,hz⟩|⟨rfl,hz⟩|rfl
  ·refine(do0_any hM (mtrO _ _ _ _ _ _ _ _ _ (by omega) (by omega)) rfl (k:=0) rfl (by simp[t1,mO,codeO]) (by omega) rfl (by simp[t1,mO]) (by simp[t1,mO])).mono λe w'' hr=>?_;exact⟨t2 n,Or.inr (Or.inl rfl),muO (by decide),hr⟩
  ·refine(do0_any hM (mtrO _ _ _ _ _ _ _ _ _ (by omega) (by omega)) rfl (k:=1) rfl (by simp[t2,mO,codeO]) (by omega) rfl (by simp[t2,mO]) (by simp[t2,mO])).mono λe w'' hr=>?_;exact⟨t3 n,Or.inr (Or.inr (Or.inl rfl)),muO (by decide),hr⟩
  ·refine(doCal_any hM (mtrO _ _ _ _ _ _ _ _ _ (by omega) (by omega)) rfl (k:=2) rfl (by simp[t3,mO,codeO]) (by omega) (op:=9+(n.k:Int)) rfl (by omega) (by simp[t3,mO]) (by simp[t3,mO]) (s:=[0]) (x:=1) (y:=2) rfl (by simp[t3,mO]) (by simp[t3,mO])).mono λe w'' hr=>?_;have hc:calS (9+(n.k:Int)) ((t3 n).cells[1]'(by simp[t3,mO])) ((t3 n).cells[2]'(by simp[t3,mO])) (nextS (stepS (t3 n)))=if rkO (9+(n.k:Int)) n.b then t4 n else tz n:=tO_cal n
   rw[hc]at hr;cases hz:rkO (9+(n.k:Int)) n.b with
   |true=>
    rw[hz,if_pos rfl]at hr;exact⟨t4 n,Or.inr (Or.inr (Or.inr (Or.inl ⟨rfl,hz⟩))),muO (by decide),hr⟩
   |false=>
    rw[hz,if_neg (by decide)]at hr;exact⟨tz n,Or.inr (Or.inr (Or.inr (Or.inr (Or.inr (by unfold tE;rw[hz];rfl))))),muO (by decide),hr⟩
  ·refine(do5_any hM (mtrO _ _ _ _ _ _ _ _ _ (by omega) (by omega)) rfl (k:=3) rfl (by simp[t4,mO,codeO]) (by omega) rfl (by simp[t4,mO]) (s:=[0]) (x:=3) rfl (j:=0) (r:=0) rfl (by simp) rfl (by simp[t4,mO])).mono λe w'' hr=>?_;rw[tO_do5]at hr;exact⟨t5 n,Or.inr (Or.inr (Or.inr (Or.inr (Or.inl ⟨rfl,hz⟩)))),muO (by decide),hr⟩
  ·refine(do19_any (λst=>st=t6 n) hM (mtrO _ _ _ _ _ _ _ _ _ (by omega) (by omega)) rfl (k:=4) rfl (by simp[t5,mO,codeO]) (by omega) rfl (λw1 B1 hM1 hb1=>?_)).mono ?_
   ·rw[tO_do19]at hM1;have hb2:=hb.trans hb1;refine(lookO hM1 (hP.low hb2) hG (hC.fr hb2) (wfO5 n) rfl).mono λe w'' hr=>?_;rw[tO_look1 hk]at hr;exact⟨t6 n,rfl,hr⟩
   ·rintro e w'' ⟨st2,rfl,hr⟩;exact⟨t6 n,Or.inr (Or.inr (Or.inr (Or.inr (Or.inr (by unfold tE;rw[hz];rfl))))),muO (by decide),hr⟩
  ·unfold tE at hs;split at hs
   ·exact absurd (show(1:Int)=0 from hs) (by decide)
   ·exact absurd (show(2:Int)=0 from hs) (by decide)
 ·rcases hj with rfl|rfl|rfl|⟨rfl,hz⟩|⟨rfl,hz⟩|rfl
  ·exact absurd rfl h0
  ·exact absurd rfl h0
  ·exact absurd rfl h0
  ·exact absurd rfl h0
  ·exact absurd rfl h0
  ·unfold tE;split<;>simp[t6,tz,mO]
 ·rintro e w' ⟨stF,hj,h0,hr⟩;rcases hj with rfl|rfl|rfl|⟨rfl,hz⟩|⟨rfl,hz⟩|rfl
  ·exact absurd rfl h0
  ·exact absurd rfl h0
  ·exact absurd rfl h0
  ·exact absurd rfl h0
  ·exact absurd rfl h0
  ·exact hr
def KpX(X:List Nat)(W W':World):Prop:=W.heap.size<=W'.heap.size∧∀k∈X,W'.heap[k]?=W.heap[k]?
theorem KpX.trans{X:List Nat}{A B C:World}(h:KpX X A B)(k:KpX X B C):KpX X A C:=⟨Nat.le_trans h.1 k.1,λb hb=>(k.2 b hb).trans (h.2 b hb)⟩
theorem KpX.refl(X:List Nat)(A:World):KpX X A A:=⟨Nat.le_refl _,λ_ _=>rfl⟩
theorem KpX.cell{X:List Nat}{A B:World}(h:KpX X A B){b:Nat}(hb:b∈X)(j:Nat):B.cell? ⟨b,j,none⟩=A.cell? ⟨b,j,none⟩:=World.cell?_of_block (a:=⟨b,j,none⟩) (h.2 b hb)
theorem bw0_nil(F:Fence)(n:Nat)(h7:F.fn 170)(hro:F.round=none)(l Bs:Nat)(p:Option Addr)(c:Nat)(J:List Empty->World->Prop)(W:World)(hBs:W.cell? ⟨Bs,0,none⟩=some (.slice p 0 c))(h0:J [] W):
 CallsIn F n Tryz.prog 170 #[.func (.yield l) #[] #[],.pointer (some ⟨Bs,0,none⟩)] W λe W'=>(∃v,e=.returned v)∧J [] W':=by
 refine callsIn_of_wp Tryz.func170 rfl h7 ?_ hro;simp only[Tryz.ntmps170,List.size_toArray,List.length_cons,List.length_nil,Nat.reduceAdd,Nat.reduceSub,Array.replicate_succ,Array.replicate_zero,List.push_toArray,List.append_toArray,List.nil_append,List.cons_append];gi_wp2
 gi_loopw [3] (λi wr=>i=.int .i64 (-1)∧J [] wr) (λ_ _=>0)
 case atStart=>exact⟨rfl,h0⟩
 case round=>
  obtain⟨rfl,hJs⟩:=hrel;gi_wp2
  go_end0
  exact⟨⟨_,rfl⟩,hJs⟩
theorem bwR_in(F:Fence)(n:Nat)(h5:F.fn 111)(hro:F.round=none)(a:Option Addr)(len cap:Nat)(w:World):
 CallsIn F n Tryz.prog 111 #[.slice a len cap] w λe w'=>e=.returned (.func (.func 170) #[] #[.pointer (some ⟨w.heap.size,0,none⟩)])∧w'=w.alloc (.cells #[.slice a len cap] 86):=by
 refine callsIn_of_wp Tryz.func111 rfl h5 ?_ hro;simp only[Tryz.ntmps111,List.size_toArray,List.length_cons,List.length_nil,Nat.reduceAdd,Nat.reduceSub,Array.replicate_succ,Array.replicate_zero,List.push_toArray,List.append_toArray,List.nil_append,List.cons_append];gi_wp2
 go_ret;exact⟨rfl,rfl⟩
theorem bw0_stops(F:Fence)(n:Nat)(h7:F.fn 170)(hro:F.round=none)(Bs:Nat)(p:Option Addr)(cap:Nat)(w:World)(hBs:Bs<w.heap.size)(hc:w.cell? ⟨Bs,0,none⟩=some (.slice p 0 cap)):
 SeqStopsK F n Tryz.prog 170 #[.pointer (some ⟨Bs,0,none⟩)] (λx:Empty=>nomatch x) (KpX [Bs]) (λys=>ys=[]) (λ_=>False) 0 w:=λl J Jx W hW _ _ _ h0=>by
 have hc':=(hW.cell (p:=⟨Bs,0,none⟩) hBs).trans hc;exact(bw0_nil F n h7 hro l Bs p cap J W hc' h0).mono λe W' ⟨he,hj⟩=>⟨he,.inl ⟨_,rfl,hj⟩⟩
theorem KpX.put{X:List Nat}{n0:Nat}(hX:∀k∈X,k<n0)(W:World)(l:Nat)(o o':Obj)(hl:n0<=l)(_:W.heap[l]?=some o)(_:o.isCells=false)(_:o.isWalk=false):KpX X W (W.putObj l o'):=
 ⟨by simp,λk hk=>World.putObj_heap_other (by have:=hX k hk;omega)⟩
def isC(w:World)(b:Nat):Prop:=∃o:Obj,w.heap[b]?=some o∧o.isCells=true
theorem isC.of_row{w:World}{lo:Nat}{e:TypeId}{size n:Nat}{v:Value}{xs:List Value}(h:w.ownsRow lo e size v n xs){b:Nat}(hb:b∈vB v):isC w b:=by
 rcases h.2 with⟨rfl,-⟩|⟨g,cap,cur,rfl,-,hg,-⟩
 ·rw[vB_nil]at hb;cases hb
 ·rw[vB_slice]at hb;obtain rfl:=List.mem_singleton.1 hb;exact⟨_,hg,rfl⟩
theorem MM.cells{lo:Nat}{w:World}{M Pb:Nat}{st:MSt}{B:List Nat}(h:MM lo w M Pb st B):∀b∈B,isC w b:=by
 obtain⟨cs,ds,cv,sv,kv,dv,tv,h,rfl⟩:=h;intro b hb;rcases List.mem_cons.1 hb with rfl|hb
 ·exact cells_of_cell (h.m.at 0 rfl)
 rcases List.mem_append.1 hb with hb|hb
 ·exact .of_row h.cl hb
 rcases List.mem_append.1 hb with hb|hb
 ·exact .of_row h.sk hb
 rcases List.mem_append.1 hb with hb|hb
 ·exact .of_row h.dp hb
 ·exact .of_row h.tx hb
theorem FldX.frC{X:Nat->Prop}{w w':World}{v:Value}{l:List Int}(h:FldX X w v l)(hX:∀b,X b->isC w b->w'.heap[b]?=w.heap[b]?):FldX X w' v l:=by
 obtain⟨p,cap,e,hc⟩:=h;refine⟨p,cap,e,λi hi=>?_⟩;obtain⟨b,o,hx,e2,h0⟩:=hc i hi;exact⟨b,o,hx,e2,cell_same (hX b hx (cells_of_cell h0)) h0⟩
theorem MM.turn{lo:Nat}{w w':World}{M Pb:Nat}{st:MSt}{B:List Nat}(h:MM lo w M Pb st B){row:Option Nat}(hg:w.grownBy w' row)(hr:∀r,row=some r->lo<=r∧∃o:Obj,w.heap[r]?=some o∧o.isCells=false):MM lo w' M Pb st B:=by
 have hc:=h.cells;have hlz:=h.lows;have hne:∀b,isC w b->b<w.heap.size->w'.heap[b]?=w.heap[b]?:=λb hb hl=>hg.block b hl λe=>by
  obtain⟨o,ho,hoc⟩:=hb;obtain⟨-,o',ho',hc'⟩:=hr b e.symm;rw[ho]at ho';cases ho';rw[hoc]at hc';cases hc'
 have hlt:∀b,isC w b->b<w.heap.size:=λb hb=>by
  obtain⟨o,ho,-⟩:=hb;exact(Array.getElem?_eq_some_iff.1 ho).1
 have hbl:Below lo w w':=⟨hg.os,hg.tape,hg.output,hg.size,λk hk=>hg.block k (by omega) λe=>by have:=(hr k e.symm).1;omega⟩;obtain⟨cs,ds,cv,sv,kv,dv,tv,h,rfl⟩:=h;have hb:∀b∈mB M cv sv dv tv,w'.heap[b]?=w.heap[b]?:=λb hb=>hne b (hc b hb) (hlt b (hc b hb));have hfr:∀v,(∀b∈vB v,b∈vB cv++(vB sv++(vB dv++vB tv)))->Fr (vB v) w w':=λv hv b hm=>hb b (List.mem_cons_of_mem _ (hv b hm));exact⟨cs,ds,cv,sv,kv,dv,tv,⟨h.m.of_block (hb M (List.mem_cons_self ..)) hg.size,row_fr h.cl (hfr cv λb hb=>List.mem_append_left _ hb),λx hx=>(h.fl x hx).frC λb _ hi=>hne b hi (hlt b hi),row_fr h.sk (hfr sv λb hb=>List.mem_append_right _ (List.mem_append_left _ hb)),row_fr h.dp (hfr dv λb hb=>List.mem_append_right _ (List.mem_append_right _ (List.mem_append_left _ hb))),λx hx=>(h.dc x hx).fr hbl,h.cd.fr hbl,row_fr h.tx (hfr tv λb hb=>List.mem_append_right _ (List.mem_append_right _ (List.mem_append_right _ hb))),h.hcs,h.hds,h.nd,h.ml⟩,rfl⟩
theorem AG.turn{X:List Nat}{w w1 w2:World}(h:AG X w w1){row:Option Nat}(hg:w1.grownBy w2 row)(hr:∀r,row=some r->w.heap.size<=r):AG X w w2:=h.grown hg λb e=>Or.inr (hr b e)
theorem MM.keeps{lo:Nat}{w w':World}{M Pb:Nat}{st:MSt}{B:List Nat}(h:MM lo w M Pb st B)(hf:AG B w w')(B0:Nat):KeepsFrom B0 w w':=
 ⟨hf.size,λk o _ hk ho=>by
  rw[hf.block k (Array.getElem?_eq_some_iff.1 hk).1 (λhm=>?_)]
  ·exact hk
  ·obtain⟨o',ho',hc⟩:=h.cells k hm;rw[hk]at ho';cases ho';rw[ho]at hc;cases hc⟩
theorem FldX.setB{X:Nat->Prop}{w:World}{v:Value}{l:List Int}{b:Nat}{y z:Bool}(h:FldX X w v l)(hc:w.cell? ⟨b,0,none⟩=some (.bool y)):FldX X (w.setCell ⟨b,0,none⟩ (.bool z)) v l:=by
 obtain⟨p,cap,e,hcs⟩:=h;refine⟨p,cap,e,λi hi=>?_⟩;obtain⟨b',o,hx,e2,h0⟩:=hcs i hi;refine⟨b',o,hx,e2,?_⟩;by_cases hb:b'=b
 ·subst hb;by_cases ho:o+i=0
  ·rw[ho,hc]at h0;cases h0
  ·rw[setc (Ne.symm ho)];exact h0
 ·rw[World.cell?_of_block (a:=⟨b',o+i,none⟩) (Below.heap_setCell _ _ _ _ hb)];exact h0
theorem MM.setBox{lo:Nat}{w:World}{M Pb:Nat}{m:MSt}{B:List Nat}(h:MM lo w M Pb m B){b:Nat}(hb:b∉B)(hlo:lo<=b){y:Bool}(hc:w.cell? ⟨b,0,none⟩=some (.bool y))(z:Bool):MM lo (w.setCell ⟨b,0,none⟩ (.bool z)) M Pb m B:=by
 obtain⟨cs,ds,cv,sv,kv,dv,tv,h,rfl⟩:=h;have hbl:Below lo w (w.setCell ⟨b,0,none⟩ (.bool z)):=(Below.refl _ _).setCell hlo _;have hk:∀q∈mB M cv sv dv tv,(w.setCell ⟨b,0,none⟩ (.bool z)).heap[q]?=w.heap[q]?:=λq hq=>Below.heap_setCell _ _ _ _ (show q≠b from λe=>hb (e▸hq));have hfr:∀v,(∀q∈vB v,q∈vB cv++(vB sv++(vB dv++vB tv)))->Fr (vB v) w (w.setCell ⟨b,0,none⟩ (.bool z)):=λv hv q hm=>hk q (List.mem_cons_of_mem _ (hv q hm));exact⟨cs,ds,cv,sv,kv,dv,tv,⟨h.m.of_block (hk M (List.mem_cons_self ..)) (by simp),row_fr h.cl (hfr cv λb hb=>List.mem_append_left _ hb),λx hx=>(h.fl x hx).setB hc,row_fr h.sk (hfr sv λb hb=>List.mem_append_right _ (List.mem_append_left _ hb)),row_fr h.dp (hfr dv λb hb=>List.mem_append_right _ (List.mem_append_right _ (List.mem_append_left _ hb))),λx hx=>(h.dc x hx).fr hbl,h.cd.fr hbl,row_fr h.tx (hfr tv λb hb=>List.mem_append_right _ (List.mem_append_right _ (List.mem_append_right _ hb))),h.hcs,h.hds,h.nd,h.ml⟩,rfl⟩
theorem cat40(l:List UInt8):(⟨#[40]⟩:ByteArray)++⟨l.toArray⟩=⟨(40::l).toArray⟩:=by
 apply ByteArray.ext;rw[ByteArray.data_append];simp
theorem rec0{lo:Nat}{w:World}{M Pb:Nat}{st:MSt}{B:List Nat}(v:Int)(hv1:-9223372036854775808<=v)(hv2:v<=9223372036854775807){l r:Int}{p:Option Addr}{c:Nat}(h:MM lo w M Pb st B)(ht:st.text=[])(htb:Lib.TabBelow Tryz.prog lo w "internal/strconv.uint64pow10" .u64 Lib.pow10Tab):
 Calls Tryz.prog 57 #[.pointer (some ⟨M,0,none⟩),.agg #[.int .u8 3,.int .i64 v,.int .i32 l,.int .i32 r,.slice p 0 c]] w λe w'=>MRes lo M Pb B w {st with text:=40::(Lib.itoa v++[41])} (.bool true) e w':=by
 have hlow:=h.lows;have hil:=Lib.itoa_length_le v hv1 hv2;obtain⟨s1,hs1⟩:∃s1,s1={st with text:=40::Lib.itoa v}:=⟨_,rfl⟩;obtain⟨s2,hs2⟩:∃s2,s2={st with text:=40::(Lib.itoa v++[41])}:=⟨_,rfl⟩;rw[<-hs2];have e1:sayS ⟨(40::Lib.itoa v).toArray⟩ st=s1∧sayB ⟨(40::Lib.itoa v).toArray⟩ st=true:=by
  have hb:sayB ⟨(40::Lib.itoa v).toArray⟩ st=true:=by
   unfold sayB;rw[ht];refine decide_eq_true ?_;show 0+(40::Lib.itoa v).toArray.size<=2000;rw[List.size_toArray,List.length_cons];omega
  refine⟨?_,hb⟩;unfold sayS;rw[if_pos hb,ht,hs1];rfl
 have e2:sayS ⟨#[41]⟩ s1=s2∧sayB ⟨#[41]⟩ s1=true:=by
  have hb:sayB ⟨#[41]⟩ s1=true:=by
   unfold sayB;rw[hs1];refine decide_eq_true ?_;show(40::Lib.itoa v).length+1<=2000;rw[List.length_cons];omega
  refine⟨?_,hb⟩;unfold sayS;rw[if_pos hb,hs1,hs2];rfl
 have hl1:s1.text.length<=2000:=by rw[hs1];show(40::Lib.itoa v).length<=2000;rw[List.length_cons];omega
 obtain⟨W0,hW0⟩:∃W0,((w.alloc (.cells #[.pointer (some ⟨M,0,none⟩)] 81)).alloc (.cells #[.int .u8 3,.int .i64 v,.int .i32 l,.int .i32 r,.slice p 0 c] 158)).alloc (.cells #[.bool false] 4)=W0:=⟨_,rfl⟩;have hz0:W0.heap.size=w.heap.size+1+1+1:=by rw[<-hW0];simp
 have hb0:Below w.heap.size w W0:=by rw[<-hW0];exact(((Below.refl _ w).alloc (Nat.le_refl _) _).alloc (by simp) _).alloc (by simp;omega) _
 have d0:W0.cell? ⟨w.heap.size,0,none⟩=some (.pointer (some ⟨M,0,none⟩)):=by rw[<-hW0];exact alloc_old _ _ _ _ _ (alloc_old _ _ _ _ _ (by simp))
 have hb5:=FBL.new5 (w.alloc (.cells #[.pointer (some ⟨M,0,none⟩)] 81)) (.int .u8 3) (.int .i64 v) (.int .i32 l) (.int .i32 r) (.slice p 0 c) 158;rw[World.size_alloc]at hb5;have d1:W0.cell? ⟨w.heap.size+1,1,none⟩=some (.int .i64 v):=by rw[<-hW0];exact alloc_old _ _ _ _ _ (hb5.at 1 rfl)
 have d4:W0.cell? ⟨w.heap.size+1,4,none⟩=some (.slice p 0 c):=by rw[<-hW0];exact alloc_old _ _ _ _ _ (hb5.at 4 rfl)
 have d2:W0.cell? ⟨w.heap.size+1+1,0,none⟩=some (.bool false):=by
  rw[<-hW0];have:=(Boxed.new ((w.alloc (.cells #[.pointer (some ⟨M,0,none⟩)] 81)).alloc (.cells #[.int .u8 3,.int .i64 v,.int .i32 l,.int .i32 r,.slice p 0 c] 158)) 4 (.bool false)).cell;rw[World.size_alloc,World.size_alloc]at this;exact this
 have f2:W0.frozen? ⟨w.heap.size+1+1,0,none⟩=false:=by
  rw[<-hW0];have:=frozen_new ((w.alloc (.cells #[.pointer (some ⟨M,0,none⟩)] 81)).alloc (.cells #[.int .u8 3,.int .i64 v,.int .i32 l,.int .i32 r,.slice p 0 c] 158)) #[.bool false] 4 0;rw[World.size_alloc,World.size_alloc]at this;exact this
 clear hb5;have HIT:Hid (∀X,Below W0.heap.size W0 X->Calls Tryz.prog 6 #[.int .i64 v] X λe w'=>e=.returned (.string ⟨(Lib.itoa v).toArray⟩)∧Hid (Below W0.heap.size W0 w')):=λX hX=>(itoa_any v hv1 hv2 X (htb X ((hb0.trans (hX.mono hb0.size)).mono hlow.1))).mono λe w' ⟨he,k,os,hw⟩=>⟨he,by rw[hw];exact hX.trans (Lib.below_grow _ _ hX.size k os)⟩;have HSY:Hid (∀X,Below W0.heap.size W0 X->Calls Tryz.prog 56 #[.pointer (some ⟨M,0,none⟩),.string (⟨#[40]⟩++⟨(Lib.itoa v).toArray⟩)] X λe w1=>e=.returned (.bool true)∧Hid (∃B1,MM lo w1 M Pb s1 B1∧AG B W0 w1∧∀b∈B1,b∈B∨W0.heap.size<=b)):=λX hX=>by
  rw[cat40];refine(say_any ⟨(40::Lib.itoa v).toArray⟩ (h.keep (hb0.trans (hX.mono hb0.size))) (by show(40::Lib.itoa v).toArray.size<=_;rw[List.size_toArray,List.length_cons];omega) (by rw[ht];simp)).mono λe w1 hr=>?_;obtain⟨he,hA1,B1,hM1,hB1⟩:=hr;rw[e1.1]at hM1;rw[e1.2]at he;exact⟨he,B1,hM1,(AG.of_below (X:=B) hX).trans hA1 (λb hb=>Or.inl hb),λb hb=>(hB1 b hb).imp id λh1=>Nat.le_trans hX.size h1⟩
 have HGX:Hid (∀X,Below W0.heap.size W0 X->X.cell? ⟨w.heap.size,0,none⟩=some (.pointer (some ⟨M,0,none⟩))∧X.cell? ⟨w.heap.size+1,1,none⟩=some (.int .i64 v)):=λX hX=>⟨cell_keep hX d0,cell_keep hX d1⟩;have hbd:Below W0.heap.size W0 W0.drew:=(Below.refl _ _).drew;have hlB:∀b∈B,b<w.heap.size:=by
  obtain⟨cs,ds,cv,sv,kv,dv,tv,h,rfl⟩:=h;exact λb hb=>(h.rg b hb).2
 have HBOX:Hid (∀X,AG B W0 X->X.cell? ⟨w.heap.size,0,none⟩=some (.pointer (some ⟨M,0,none⟩))∧X.cell? ⟨w.heap.size+1,4,none⟩=some (.slice p 0 c)∧X.cell? ⟨w.heap.size+1+1,0,none⟩=some (.bool false)∧X.frozen? ⟨w.heap.size+1+1,0,none⟩=false):=λX hX=>by
  have hne:∀b,w.heap.size<=b->b<w.heap.size+1+1+1->X.heap[b]?=W0.heap[b]?:=λb h1 h2=>hX.block b (by omega) λhm=>by have:=hlB b hm;omega
  exact⟨cell_same (hne _ (by omega) (by omega)) d0,cell_same (hne _ (by omega) (by omega)) d4,cell_same (hne _ (by omega) (by omega)) d2,by rw[World.frozen?_of_block (a:=⟨w.heap.size+1+1,0,none⟩) (hne (w.heap.size+1+1) (by omega) (by omega))];exact f2⟩
 have HFIN:Hid (∀X B1,MM lo X M Pb s2 B1->AG ((w.heap.size+1+1)::B) W0 X->(∀b∈B1,b∈B∨W0.heap.size<=b)->MRes lo M Pb B w s2 (.bool true) (.returned (.bool true)) X):=λX B1 h1 h2 h3=>by
  have hz:=h2.size;refine⟨rfl,⟨h2.os.trans hb0.os,h2.tape.trans hb0.tape,h2.output.trans hb0.output,by omega,λq hq hqB=>?_⟩,B1,h1,λb hb=>(h3 b hb).imp id λh5=>by omega⟩;rw[h2.block q (by omega) (λhm=>(List.mem_cons.1 hm).elim (λe=>by omega) hqB)];exact hb0.block q hq
 have HLB:=hid hlB;have HLOW:=hid hlow;have HZ0:=hid hz0;have HE2:=hid e2;have HL1:=hid hl1;refine(callsIn_wide (n:=9)).1 ?_;refine callsIn_of_wp_marks Tryz.func57 rfl trivial ?_ rfl;simp only[Tryz.ntmps57,List.size_toArray,List.length_cons,List.length_nil,Nat.reduceAdd,Nat.reduceSub,Array.replicate_succ,Array.replicate_zero,List.push_toArray,List.append_toArray,List.nil_append,List.cons_append];clear h hlow hlB hb0 d2 f2 d4 hz0 ht htb hv1 hv2 e1 e2 hl1 hs1 hs2;gi_wp2
 have d0d:W0.drew.cell? ⟨w.heap.size,0,none⟩=_:=d0;have d1d:W0.drew.cell? ⟨w.heap.size+1,1,none⟩=_:=d1;clear hW0 d0 d1;refine wpIn_mono (Q:=Exit.then (λa' w'=>a'={tmps:=#[.pointer (some ⟨M,0,none⟩),.agg #[.int .u8 3,.int .i64 v,.int .i32 l,.int .i32 r,.slice p 0 c],.pointer (some ⟨w.heap.size,0,none⟩),.pointer (some ⟨w.heap.size+1,0,none⟩),.pointer (some ⟨w.heap.size+1+1,0,none⟩),undef,undef,.pointer (some ⟨M,0,none⟩),.pointer (some ⟨w.heap.size+1,1,none⟩),.int .i64 v,.string ⟨(Lib.itoa v).toArray⟩,.string (⟨#[40]⟩++⟨(Lib.itoa v).toArray⟩),.bool true,.bool false,undef,undef,undef,undef,undef,undef,undef,undef,undef,undef,undef,undef,undef,undef,undef,undef],defers:=[]}∧Hid (∃B1,MM lo w' M Pb s1 B1∧AG B W0 w'∧∀b∈B1,b∈B∨W0.heap.size<=b)) (λ_ _ _=>False)) ?_ ?_
 ·gi_region_with (first
   |(refine⟨trivial,?_⟩;gi_at_call 6;refine(callsIn_wide.2 (HIT.out _ hbd)).mono ?_;rintro e w5 ⟨rfl,HB5⟩;obtain⟨g0,g1⟩:=HGX.out w5 HB5.out;have HS5:=hid (HSY.out w5 HB5.out);clear HB5)
   |(refine⟨trivial,?_⟩;gi_at_call 56;refine(callsIn_wide.2 HS5.out).mono ?_;rintro e w6 ⟨rfl,HM6⟩))
  all_goals exact⟨rfl,HM6⟩
 ·intro e a' w1 hp;cases e with
  |normal=>
   obtain⟨rfl,HM6⟩:=hp;clear HIT HSY HGX d0d d1d hbd;obtain⟨B1,hM1,hA1,hB1⟩:=HM6.out;obtain⟨k0,k4,k2,g2⟩:=HBOX.out _ hA1;have HM1:=hid hM1;have HA1:=hid hA1;have HB1:=hid hB1;clear HM6 hM1 hA1 hB1;obtain⟨W2,hW2⟩:∃W2,w1.alloc (Obj.cells #[Value.slice p 0 c] 86)=W2:=⟨_,rfl⟩;have hz2:W2.heap.size=w1.heap.size+1:=by rw[<-hW2];simp
   have hb2:Below w1.heap.size w1 W2:=by rw[<-hW2];exact(Below.refl _ _).alloc (Nat.le_refl _) _
   have d3:W2.cell? ⟨w1.heap.size,0,none⟩=some (.slice p 0 c):=by rw[<-hW2];exact(Boxed.new w1 86 (.slice p 0 c)).cell
   have hzw:=HA1.out.size;have hz0:=HZ0.out;have hM1l:=HM1.out.lows;have hnB1:∀b,b<W0.heap.size->b∉B->b∉B1:=λb h1 h2 hm=>(HB1.out b hm).elim h2 λh3=>by omega
   have hAW:∀X,AG B1 W2 X->AG B W0 X:=λX hX=>(HA1.out.then hb2).trans hX HB1.out;have hs2:lo<=w.heap.size+1+1∧w.heap.size+1+1<W2.heap.size∧w.heap.size+1+1∉B1:=⟨by have:=HLOW.out.1;omega,by omega,hnB1 _ (by omega) λhm=>by have:=HLB.out _ hm;omega⟩;have hlo2:lo<=W2.heap.size:=by have:=hM1l.1;omega
   have HI0:Hid (∃B2,MM lo W2 M Pb s1 B2∧AG B1 W2 W2∧∀b∈B2,b∈B1∨W2.heap.size<=b):=⟨B1,HM1.out.keep hb2,AG.refl _ _,λb hb=>Or.inl hb⟩;have HAW:=hid hAW;have HS2:=hid hs2;have HLO2:=hid hlo2;clear hM1l hnB1 hAW hs2 hlo2;gi_wp2_with (first
    |(refine⟨trivial,?_⟩;gi_at_call 111;refine(bwR_in Fence.wide _ trivial rfl _ _ _ _).mono ?_;rintro e w9 ⟨rfl,rfl⟩))
   (try rw[hW2])
   clear hW2;refine wpIn_rangeFunc_ownH (F:=Fence.wide) rfl (by omega) (gf:=170) (lb:=#[.pointer (some ⟨w1.heap.size,0,none⟩)]) rfl trivial (enters_of Tryz.func170 (by kernel_rfl) rfl)
    (bw0_stops Fence.wide _ trivial rfl w1.heap.size p c W2 (by omega) d3) KpX.trans (KpX.put (λq hq=>by obtain rfl:=List.mem_singleton.1 hq;omega)) (Below.refl _ _) (λx=>nomatch x)
    (λ(_:List Empty) W=>∃B2,MM lo W M Pb s1 B2∧AG B1 W2 W∧∀b∈B2,b∈B1∨W2.heap.size<=b)
    (λ_ (_:List Empty) _=>False)
    (λs X Y row hs hg hr=>by obtain⟨B2,h1,h2,h3⟩:=hs;exact⟨B2,h1.turn hg (λr e=>⟨Nat.le_trans HLO2.out (hr r e).1,(hr r e).2⟩),h2.turn hg (λr e=>(hr r e).1),h3⟩)
    (λc s X Y row hs hg hr=>hs)
    HI0.out
    (λ(y:Empty) a' W=>False)
    (λy a' s X Y row hs hg hr=>hs)
    ?assign ?body ?done ?stop
   case assign=>exact λl pre y=>y.elim
   case body=>exact λl pre y=>y.elim
   case done=>
    rintro D ys W hD hys ⟨B2,hM2,hA2,hB2⟩ hK;obtain⟨j0,-,j2,j3⟩:=HBOX.out W (HAW.out W hA2);have HSY:Hid (Calls Tryz.prog 56 #[.pointer (some ⟨M,0,none⟩),.string ⟨#[41]⟩] W λe w5=>e=.returned (.bool true)∧(w5.cell? ⟨w.heap.size,0,none⟩=some (.pointer (some ⟨M,0,none⟩))∧w5.cell? ⟨w.heap.size+1+1,0,none⟩=some (.bool false)∧w5.frozen? ⟨w.heap.size+1+1,0,none⟩=false)∧Hid ((w5.setCell ⟨w.heap.size+1+1,0,none⟩ (.bool true)).heap[D]?=some (.deferred (some []))∧((w5.setCell ⟨w.heap.size+1+1,0,none⟩ (.bool true)).putObj D (.deferred none)).cell? ⟨w.heap.size+1+1,0,none⟩=some (.bool true)∧MRes lo M Pb B w s2 (.bool true) (.returned (.bool true)) ((w5.setCell ⟨w.heap.size+1+1,0,none⟩ (.bool true)).putObj D (.deferred none)))):=by
     refine(say_any ⟨#[41]⟩ hM2 (by show(1:Nat)<=_;omega) HL1.out).mono λe w5 hr=>?_;obtain⟨he,hA5,B5,hM5,hB5⟩:=hr;rw[HE2.out.1]at hM5;rw[HE2.out.2]at he;have hA25:=hA2.trans hA5 hB2;have hB5':∀b∈B5,b∈B1∨W2.heap.size<=b:=λb hb=>(hB5 b hb).elim (hB2 b) λh1=>Or.inr (Nat.le_trans hA2.size h1);obtain⟨q0,-,q2,q3⟩:=HBOX.out w5 (HAW.out w5 hA25);have hs:=HS2.out;have hsB5:w.heap.size+1+1∉B5:=λhm=>(hB5' _ hm).elim hs.2.2 λh1=>by omega
     have hD5:w5.heap[D]?=some (.deferred (some [])):=(hM2.keeps hA5 0).same D _ (Nat.zero_le _) hK rfl;have hD6:(w5.setCell ⟨w.heap.size+1+1,0,none⟩ (.bool true)).heap[D]?=some (.deferred (some [])):=by rw[Below.heap_setCell _ _ _ _ (show D≠w.heap.size+1+1 by omega)];exact hD5
     have hr:∀r,some D=some r->∃o:Obj,(w5.setCell ⟨w.heap.size+1+1,0,none⟩ (.bool true)).heap[r]?=some o∧o.isCells=false:=λr e=>by cases e;exact⟨_,hD6,rfl⟩
     have hM6:=(hM5.setBox hsB5 hs.1 q2 true).turn (grownBy_putObj' _ D (.deferred none)) (λr e=>⟨by cases e;have:=HLO2.out;omega,hr r e⟩);have hA0:=HAW.out w5 hA25;have hA6:AG ((w.heap.size+1+1)::B) W0 ((w5.setCell ⟨w.heap.size+1+1,0,none⟩ (.bool true)).putObj D (.deferred none)):=(AG.set ⟨hA0.os,hA0.tape,hA0.output,hA0.size,λj hj hm=>hA0.block j hj λh=>hm (List.mem_cons_of_mem _ h)⟩ (Or.inl (List.mem_cons_self ..)) _).turn (grownBy_putObj' _ D (.deferred none)) (λr e=>by cases e;omega);have h1:=HFIN.out _ B5 hM6 hA6 (λb hb=>(hB5' b hb).elim (HB1.out b) λh1=>Or.inr (by omega));exact⟨he,⟨q0,q2,q3⟩,hD6,cell_kept (World.cell?_setCell_same _ _ _ q2) (grownBy_putObj' _ D _) hr,h1⟩
    clear hM2 hA2 hB2 hys hK;gi_wp2_with (first
     |(refine⟨trivial,?_⟩;gi_at_call 56;refine(callsIn_wide.2 HSY.out).mono ?_;rintro e w5 ⟨rfl,⟨i0,i2,i3⟩,HF5⟩))
    refine⟨by simp,.inl ⟨_,_,rfl,run_takeDeferred HF5.out.1,?_⟩⟩;have kf:=HF5.out.2.1;exact⟨.bool true,by simp[results,Tryz.results57,go_sem,kf],HF5.out.2.2⟩
   case stop=>
    rintro D c pre W hD hF;exact hF.elim
  |_=>exact hp.elim
end Go.Proofs.YtblobglfjhilmaaGreatDoor
