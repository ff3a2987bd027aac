import Derived.Test.YtahmgjjgikgpoaaGreatDoorRefLfpJ
import Derived.Test.YtahmgjjgikgpoaaGreatDoorDepthJ
import Derived.Test.YtahmgjjgikgpoaaGreatDoorShapedJ
set_option maxRecDepth 100000
set_option maxHeartbeats 8000000
namespace Go.Proofs.YtahmgjjgikgpoaaGreatDoor
open Go.RowKit Go.Sort
theorem Tryz.depthInfo:(Tryz.prog.info? 192).map (λi=>(i.zero,i.size,i.bytes))=some (some (.agg #[.bool false,.bool false,.int .i64 0]),3,16):=by kernel_rfl
def madeDeps(n:Nat):Array Value:=madeCells #[.bool false,.bool false,.int .i64 0] (n*3)
theorem makeDeps_run(n:Nat)(hn:n<=65535)(w:World):(Instr.makeSlice 188 (.int .i64 (n:Int)) (.int .i64 (n:Int))).run Tryz.prog w=.ok (.slice (some ⟨w.heap.size,0,none⟩) n n) (w.alloc (.cells (madeDeps n) 192)):=by
 obtain⟨i,hi,hii⟩:=Option.map_eq_some_iff.1 Tryz.depthInfo;simp only[Prod.mk.injEq]at hii;obtain⟨hz0,hz1,hz2⟩:=hii;rw[run_make (P:=Tryz.prog) w 188 192 i _ Tryz.underlying188 hi hz0 .i64 .i64 n n (by omega) (by omega) (by rw[hz2];omega) (by omega),hz1];simp[madeDeps,Value.cells]
theorem madeDeps_at(n i:Nat)(h:i<n):(madeDeps n)[i*3]?=some (.bool false)∧(madeDeps n)[i*3+1]?=some (.bool false)∧(madeDeps n)[i*3+2]?=some (.int .i64 0):=by
 have e1:i*3 % 3=0:=by omega
 have e2:(i*3+1) % 3=1:=by omega
 have e3:(i*3+2) % 3=2:=by omega
 refine⟨?_,?_,?_⟩
 ·simp[madeDeps,madeCells,show i*3<n*3 by omega,e1]
 ·simp[madeDeps,madeCells,show i*3+1<n*3 by omega,e2]
 ·simp[madeDeps,madeCells,show i*3+2<n*3 by omega,e3]
theorem DepsAt.made(w:World)(n:Nat):DepsAt (w.alloc (.cells (madeDeps n) 192)) w.heap.size (List.replicate n (-1)):=by
 refine⟨λi hi=>?_,λi hi=>?_,λi hi=>?_,λi hi=>by simp,by simp⟩;all_goals
  rw[List.length_replicate]at hi;have:=madeDeps_at n i hi
 ·rw[alloc_cell _ _ _ _ _ this.1];simp
 ·rw[alloc_cell _ _ _ _ _ this.2.1];simp
 ·rw[alloc_cell _ _ _ _ _ this.2.2];simp[dvI]
theorem DepsAt.first(w:World)(n:Nat)(d0:Int)(hn:0<n)(hd:0<=d0):DepsAt (w.alloc (.cells ((((madeDeps n).setIfInBounds 0 (.bool true)).setIfInBounds 1 (.bool false)).setIfInBounds 2 (.int .i64 d0)) 192)) w.heap.size ((List.replicate n (-1)).set 0 d0):=by
 have hsz:(madeDeps n).size=n*3:=by simp[madeDeps,size_madeCells]
 have h1:(d0 !=-1)=true:=by rw[bne_iff_ne];omega
 have h2:(d0==-2)=false:=by rw[beq_eq_false_iff_ne];omega
 have h3:dvI d0=d0:=by unfold dvI;rw[if_neg (by omega)]
 refine⟨λi hi=>?_,λi hi=>?_,λi hi=>?_,λi hi=>by simp,by simp⟩;all_goals
  rw[List.length_set,List.length_replicate]at hi;have hm:=madeDeps_at n i hi
 ·refine alloc_cell _ _ _ _ _ ?_;by_cases e:i=0
  ·subst e;simp[Array.getElem?_setIfInBounds,hsz,h1];omega
  ·simp[show ¬0=i by omega,show ¬1=i*3 by omega,show ¬2=i*3 by omega,show ¬0=i*3 by omega,hm.1]
 ·refine alloc_cell _ _ _ _ _ ?_;by_cases e:i=0
  ·subst e;simp[Array.getElem?_setIfInBounds,hsz,h2];omega
  ·simp[show ¬0=i by omega,show ¬i*3=0 by omega,show ¬2=i*3+1 by omega,hm.2.1]
 ·refine alloc_cell _ _ _ _ _ ?_;by_cases e:i=0
  ·subst e;simp[Array.getElem?_setIfInBounds,hsz,h3];omega
  ·simp[show ¬0=i by omega,show ¬i*3=0 by omega,hm.2.2,dvI]
def DepRes(code:List LIns)(d0:Int)(e:Ending)(w':World):Prop:=∃E dep,e=.returned (.slice (some ⟨E,0,none⟩) code.length code.length)∧Least code d0 dep∧DepsAt w' E dep∧(∀i,i<code.length->okd (dep.getD i 0))
structure Fine2 (code:List LIns):Prop where
 fine:Fine code
 good:∀k (hk:k<code.length),insG code[k].op code[k].a code[k].alts=true
structure Row3 (code:List LIns) (d0:Int) (dep dp:List Int) (at_:Nat) (d v:Int) (sl:List Nat) (k:Nat) (dq:List Int) (m2:Bool):Prop where
 inv:RInv code d0 dq
 rank:ranks dep<=ranks dq
 up:m2=true->ranks dep<ranks dq
 low:m2=false->dq=dep∧dp=dep∧(∀k (hk:k<code.length),k<at_->∀s∈succs code[k] k,leI (outI code[k] (dep.getD k 0)) (dep.getD s 0))∧∀j (hj:j<sl.length),j<k->leI v (dep.getD sl[j] 0)
 act:dq.getD at_ 0=-2∨dq.getD at_ 0=d
structure Now (x:LIns) (d v da v':Int) (mr:Int):Prop where
 out:outI x da=v'
 ne:v'≠-1
 ok:okd v'
 alt:da=-2∧v'=-2∨(da=d∧da≠-2∧0<=da∧da<=1000∧v'=da+mr∧0<=v'∧v'<=1000∧v'=v)
theorem Row3.now{code:List LIns}{d0:Int}{dep dp:List Int}{at_:Nat}{d v:Int}{sl:List Nat}{k:Nat}{dq:List Int}{m2:Bool}(h:Row3 code d0 dep dp at_ d v sl k dq m2)(hat:at_<code.length)(mr:Int)
 (hv:outI code[at_] d=v∧v≠-1∧okd v∧(d=-2∧v=-2∨(d≠-2∧0<=d∧d<=1000∧v=d+mr∧0<=v∧v<=1000))):∃v',Now code[at_] d v (dq.getD at_ 0) v' mr:=by
 rcases h.act with e|e
 ·exact⟨-2,by rw[e];simp[outI,outD],by omega,Or.inr (Or.inl rfl),Or.inl ⟨e,rfl⟩⟩
 ·by_cases h2:d=-2
  ·refine⟨-2,by rw[e,h2];simp[outI,outD],by omega,Or.inr (Or.inl rfl),Or.inl ⟨by omega,rfl⟩⟩
  ·obtain⟨h1,h3,h4,h5⟩:=hv;rcases h5 with⟨h5,-⟩|⟨-,h6,h7,h8,h9,h10⟩
   ·exact absurd h5 h2
   ·exact⟨v,by rw[e];exact h1,h3,h4,Or.inr ⟨e,by omega,by omega,by omega,by omega,h9,h10,rfl⟩⟩
theorem Row3.same{code:List LIns}{d0:Int}{dep dp:List Int}{at_:Nat}{d v:Int}{sl:List Nat}{k:Nat}{dq:List Int}{m2:Bool}(h:Row3 code d0 dep dp at_ d v sl k dq m2){x:LIns}{v' mr:Int}(hn:Now x d v (dq.getD at_ 0) v' mr)(hd:dp.getD at_ 0=d)(hv:d=-2->v=-2)(hk:k<sl.length)(hj:joinI (dq.getD sl[k] 0) v'=dq.getD sl[k] 0):Row3 code d0 dep dp at_ d v sl (k+1) dq m2:=by
 refine⟨h.inv,h.rank,h.up,λhm=>?_,h.act⟩;obtain⟨a1,a2,a3,a4⟩:=h.low hm;refine⟨a1,a2,a3,λj hj' hjk=>?_⟩;by_cases e:j=k
 ·subst e;have h1:leI v' (dq.getD sl[j] 0):=by
   have:=joinI_le_right (dq.getD sl[j] 0) v';rw[hj]at this;exact this
  rw[<-a1];have hda:dq.getD at_ 0=d:=by rw[a1,<-a2];exact hd
  have:v'=v:=by
   rcases hn.alt with⟨b1,b2⟩|⟨_,_,_,_,_,_,_,b⟩
   ·rw[b2,hv (by omega)]
   ·exact b
  rw[<-this];exact h1
 ·exact a4 j hj' (by omega)
theorem Row3.new{code:List LIns}{d0:Int}{dep dp:List Int}{at_:Nat}{d v:Int}{sl:List Nat}{k:Nat}{dq:List Int}{m2:Bool}(h:Row3 code d0 dep dp at_ d v sl k dq m2)(hat:at_<code.length)(hsl:succs code[at_] at_=sl)(hss:∀s∈sl,s<code.length){v' mr:Int}(hn:Now code[at_] d v (dq.getD at_ 0) v' mr)(hk:k<sl.length)(hd1:d≠-1)(hj:joinI (dq.getD sl[k] 0) v'≠dq.getD sl[k] 0):Row3 code d0 dep dp at_ d v sl (k+1) (dq.set sl[k] (joinI (dq.getD sl[k] 0) v')) true:=by
 have hs:=hss _ (List.getElem_mem hk);obtain⟨b1,b2,b3⟩:=h.inv.step at_ hat sl[k] (by rw[hsl];exact List.getElem_mem hk) hs v' hn.out hn.ne hn.ok;have hr:=h.rank;have b4:=b2 hj;refine⟨b1,by omega,λ_=>by omega,λhm=>absurd hm (by simp),?_⟩;rw[getD_set _ _ _ _ (by rw[h.inv.len];exact hs)];by_cases e:at_=sl[k]
 ·rw[if_pos e];rw[<-e]at hj;rw[<-e];left
  have h1:=h.act;unfold joinI at*;split at hj
  ·omega
  ·rename_i h2
   rw[if_neg h2];split at hj
   ·rename_i h3;rw[if_pos h3]
   ·rename_i h3;omega
 ·rw[if_neg e];exact h.act
structure Mem6 (w wr:World) (lo:Nat) (q:Option Addr) (sl:List Nat) (dq:List Int) (cv:Value):Prop where
 D:DepsAt wr (w.heap.size+1) dq
 I:IntsIn wr lo q (sl.map λs:Nat=>(s:Int))
 B:Below w.heap.size w wr
 c:wr.cell? ⟨w.heap.size,3,none⟩=some cv
 z:w.heap.size+1<wr.heap.size
theorem Mem6.keep{w wr w':World}{lo:Nat}{q:Option Addr}{sl:List Nat}{dq:List Int}{cv:Value}(h:Mem6 w wr lo q sl dq cv)(hb:Below wr.heap.size wr w'):Mem6 w w' lo q sl dq cv:=
 ⟨h.D.keep hb,h.I.far hb.size (λtb j _ h2=>hb.cell (p:=⟨tb,j,none⟩) h2),h.B.trans (hb.mono h.B.size),cell_keep hb h.c,Nat.lt_of_lt_of_le h.z hb.size⟩
theorem Mem6.stored{w wr:World}{lo:Nat}{q:Option Addr}{sl:List Nat}{dq:List Int}{cv:Value}(h:Mem6 w wr lo q sl dq cv)(hlo:w.heap.size+1<lo)(s:Nat)(hs:s<dq.length)(d:Int):
 Mem6 w (((wr.setCell ⟨w.heap.size+1,s*3,none⟩ (.bool (d !=-1))).setCell ⟨w.heap.size+1,s*3+1,none⟩ (.bool (d==-2))).setCell ⟨w.heap.size+1,s*3+2,none⟩ (.int .i64 (dvI d))) lo q sl (dq.set s d) cv:=by
 refine⟨h.D.stored s hs d,h.I.far (by simp) (λtb j h1 h2=>?_),((h.B.setCell (by simp) _).setCell (by simp) _).setCell (by simp) _,?_,by simpa using h.z⟩
 ·rw[World.cell?_setCell_other _ _ _ _ (by intro e;have:=congrArg Addr.block e;simp only at this;omega),World.cell?_setCell_other _ _ _ _ (by intro e;have:=congrArg Addr.block e;simp only at this;omega),World.cell?_setCell_other _ _ _ _ (by intro e;have:=congrArg Addr.block e;simp only at this;omega)]
 ·rw[World.cell?_setCell_other _ _ _ _ (by intro e;have:=congrArg Addr.block e;simp only at this;omega),World.cell?_setCell_other _ _ _ _ (by intro e;have:=congrArg Addr.block e;simp only at this;omega),World.cell?_setCell_other _ _ _ _ (by intro e;have:=congrArg Addr.block e;simp only at this;omega)];exact h.c
theorem Mem6.two{w wr:World}{lo:Nat}{q:Option Addr}{sl:List Nat}{dq:List Int}{cv:Value}(h:Mem6 w wr lo q sl dq cv)(hlo:w.heap.size+1<lo)(s:Nat)(hs:s<dq.length):
 Mem6 w (((wr.setCell ⟨w.heap.size+1,s*3,none⟩ (.bool true)).setCell ⟨w.heap.size+1,s*3+1,none⟩ (.bool true)).setCell ⟨w.heap.size+1,s*3+2,none⟩ (.int .i64 0)) lo q sl (dq.set s (-2)) cv:=by
 have:=h.stored hlo s hs (-2);rw[show((-2:Int) !=-1)=true by decide,show((-2:Int)==-2)=true by decide,show dvI (-2)=0 by decide]at this;exact this
theorem Mem6.one{w wr:World}{lo:Nat}{q:Option Addr}{sl:List Nat}{dq:List Int}{cv:Value}(h:Mem6 w wr lo q sl dq cv)(hlo:w.heap.size+1<lo)(s:Nat)(hs:s<dq.length)(d:Int)(hd:0<=d):
 Mem6 w (((wr.setCell ⟨w.heap.size+1,s*3,none⟩ (.bool true)).setCell ⟨w.heap.size+1,s*3+1,none⟩ (.bool false)).setCell ⟨w.heap.size+1,s*3+2,none⟩ (.int .i64 d)) lo q sl (dq.set s d) cv:=by
 have:=h.stored hlo s hs d;rw[show(d !=-1)=true by rw[bne_iff_ne];omega,show(d==-2)=false by rw[beq_eq_false_iff_ne];omega,show dvI d=d by unfold dvI;rw[if_neg (by omega)]]at this;exact this
theorem succs_len{x:LIns}{k:Nat}(h:x.alts.length<=256):(succs x k).length<=256:=by
 unfold succs;split
 ·simp
 ·split
  ·simp
  ·split
   ·simpa using h
   ·simp
theorem wrap_next{k:Nat}(h:k+1<=256):wrap64 ((k:Int)+1)=((k+1:Nat):Int):=by unfold wrap64;omega
theorem succI_map(m:Nat)(x:LIns)(k:Nat)(hm21:m<21)(hm:x.op=(m:Int))(hg:insG m x.a x.alts=true):succI m x.a x.alts k=(succs x k).map λs:Nat=>(s:Int):=by
 obtain⟨h1,-,-,-,h5,h6⟩:=insG_a m hm21 _ _ hg;unfold succI succs;rw[hm];split
 ·rfl
 ·split
  ·rename_i h;have:=h1 (by omega);simp;omega
  ·split
   ·rename_i h
    have hl:=h6 (by omega);simp only[altsGood,altsB,Bool.and_eq_true,List.all_eq_true]at hl;simp only[List.map_map];apply List.map_congr_left;intro t ht;have:=hl.2.1 t ht;simp[altOk]at this;simp;omega
   ·simp
end Go.Proofs.YtahmgjjgikgpoaaGreatDoor
namespace Go.Proofs.YtahmgjjgikgpoaaGreatDoor
open Go.RowKit
theorem firstBad_spec{p:LIns->Nat->Bool}{l:List LIns}{k:Nat}(h:firstBad p l=some k):∃hk:k<l.length,p l[k] k=true∧∀j (h:j<l.length),j<k->p l[j] j=false:=by
 unfold firstBad at h;rw[List.find?_range_eq_some]at h;obtain⟨h1,h2,h3⟩:=h;have hk:k<l.length:=by simpa using h2
 refine⟨hk,by simpa[hk]using h1,λj hj hjk=>?_⟩;have:=h3 j hjk;simpa[hj]using this
theorem firstBad_none_spec{p:LIns->Nat->Bool}{l:List LIns}(h:firstBad p l=none):∀j (h:j<l.length),p l[j] j=false:=by
 unfold firstBad at h;rw[List.find?_eq_none]at h;intro j hj;have:=h j (by simpa using hj);simpa[hj]using this
noncomputable def depOf(code:List LIns)(d0:Int):List Int:=by
 classical exact if h:∃dep,Least code d0 dep then Classical.choose h else []
theorem depOf_eq{code:List LIns}{d0:Int}{dep:List Int}(h:Least code d0 dep):depOf code d0=dep:=by
 have he:∃dep,Least code d0 dep:=⟨dep,h⟩;unfold depOf;rw[dif_pos he];exact(Classical.choose_spec he).unique h
def badNext(n:Nat)(x:LIns)(k:Nat):Bool:=(succs x k).any λs=>decide (n<=s)
noncomputable def gBad(code:List LIns)(d0 most:Int):Option (Nat×Nat):=
 match firstBad (badIdx most) code with
 |some k=>some (0,k)
 |none=>if code.length=0 then some (1,0) else
  match firstBad (badNext code.length) code with
  |some k=>some (1,k)
  |none=>match firstBad (badD (depOf code d0)) code with
   |some k=>some (2,k)
   |none=>none
theorem gBad_idx{code:List LIns}{d0 most:Int}{k:Nat}(h:firstBad (badIdx most) code=some k):gBad code d0 most=some (0,k):=by unfold gBad;rw[h]
theorem gBad_empty{code:List LIns}{d0 most:Int}(h:firstBad (badIdx most) code=none)(h0:code.length=0):gBad code d0 most=some (1,0):=by unfold gBad;rw[h];simp only;rw[if_pos h0]
theorem gBad_jump{code:List LIns}{d0 most:Int}{k:Nat}(h:firstBad (badIdx most) code=none)(h0:code.length≠0)(h1:firstBad (badNext code.length) code=some k):gBad code d0 most=some (1,k):=by unfold gBad;rw[h];simp only;rw[if_neg h0,h1]
theorem gBad_depth{code:List LIns}{d0 most:Int}(h:firstBad (badIdx most) code=none)(h0:code.length≠0)(h1:firstBad (badNext code.length) code=none){dep:List Int}(hd:Least code d0 dep):gBad code d0 most=(firstBad (badD dep) code).map λk=>(2,k):=by
 unfold gBad;rw[h];simp only;rw[if_neg h0,h1,depOf_eq hd];simp only;cases firstBad (badD dep) code<;>rfl
theorem codeG_ins{code:List LIns}(h:codeG code=true):∀k (hk:k<code.length),insG code[k].op code[k].a code[k].alts=true:=by
 simp only[codeG,Bool.and_eq_true,List.all_eq_true]at h;exact λk hk=>h.2 _ (List.getElem_mem hk)
theorem codeG_len{code:List LIns}(h:codeG code=true):code.length<=65535:=by
 simp only[codeG,Bool.and_eq_true]at h;simpa using h.1
theorem insG_op{op a:Int}{alts:List LAlt}(h:insG op a alts=true):0<=op∧op<21:=by
 unfold insG at h;by_cases e:0<=op∧op<21
 ·exact e
 ·rw[if_neg e]at h;cases h
theorem insG_alts{op a:Int}{alts:List LAlt}(h:insG op a alts=true):(op=17∧altsGood alts=true)∨(op≠17∧alts=[]):=by
 have ho:=insG_op h;obtain⟨m,hm⟩:=Int.eq_ofNat_of_zero_le ho.1;rw[hm]at h;obtain⟨-,-,-,-,h5,h6⟩:=insG_a m (by omega) _ _ h;by_cases e:m=17
 ·exact Or.inl ⟨by omega,h6 e⟩
 ·exact Or.inr ⟨by omega,h5 e⟩
theorem altsGood_to{alts:List LAlt}(h:altsGood alts=true):alts.length<=256∧∀t∈alts,0<=t.to:=by
 simp only[altsGood,altsB,Bool.and_eq_true,List.all_eq_true]at h;refine⟨by simpa using h.1.2,λt ht=>?_⟩;have:=h.2.1 t ht;simp[altOk]at this;omega
theorem insG_a18{op a:Int}{alts:List LAlt}(h:insG op a alts=true)(ho:op≠0):0<=a:=by
 have h21:=insG_op h;obtain⟨m,hm⟩:=Int.eq_ofNat_of_zero_le h21.1;rw[hm]at h;exact((insG_a m (by omega) _ _ h).1 (by omega)).1
theorem badNext_eq(n:Nat)(x:LIns)(k:Nat)(h:insG x.op x.a x.alts=true):badNext n x k=(leavesB n x k||(decide (n<=k+1) && !endsB x.op)):=by
 unfold badNext succs leavesB endsB altLeaves;rcases insG_alts h with⟨h17,hg⟩|⟨h17,hg⟩
 ·simp[h17];rw[Bool.eq_iff_iff,List.any_eq_true,List.any_eq_true];have:=(altsGood_to hg).2;constructor
  ·rintro⟨t,h1,h2⟩;have h3:=this t h1;exact⟨t,h1,by simp at*;omega⟩
  ·rintro⟨t,h1,h2⟩;have h3:=this t h1;exact⟨t,h1,by simp at*;omega⟩
 ·by_cases h18:x.op=18
  ·have ha:=insG_a18 h (by omega);simp[h18];omega
  ·by_cases h19:x.op=19∨x.op=20
   ·rcases h19 with h19|h19<;>simp[h19,hg]
   ·have n19:x.op≠19:=by omega
    have n20:x.op≠20:=by omega
    simp[h17,h18,n19,n20,hg]
theorem wildJ_eq{code:List LIns}(hg:codeG code=true):wildJ code=if code.length=0 then .tuple #[.int .i64 0,.bool true] else
 match firstBad (badNext code.length) code with
 |some k=>.tuple #[.int .i64 (k:Int),.bool true]
 |none=>.tuple #[.int .i64 ((code.length:Int)-1),.bool false]:=by
 unfold wildJ;by_cases h0:code.length=0
 ·rw[if_pos h0,if_pos h0]
 ·rw[if_neg h0,if_neg h0];have hi:=codeG_ins hg;cases hl:firstBad (leavesB code.length) code with
  |some k=>
   obtain⟨hk,h1,h2⟩:=firstBad_spec hl;have:firstBad (badNext code.length) code=some k:=firstBad_some _ _ k hk (by rw[badNext_eq _ _ _ (hi k hk),h1];rfl) λj hj hjk=>by
    rw[badNext_eq _ _ _ (hi j hj),h2 j hj hjk];simp;omega
   rw[this]
  |none=>
   have h2:=firstBad_none_spec hl;have hlast:code[code.length-1]?=some (code[code.length-1]'(by omega)):=List.getElem?_eq_getElem (by omega);simp only[hlast];cases he:endsB (code[code.length-1]'(by omega)).op with
   |true=>
    have:firstBad (badNext code.length) code=none:=firstBad_none _ _ λj hj=>by
     rw[badNext_eq _ _ _ (hi j hj),h2 j hj];by_cases e:j=code.length-1
     ·subst e;rw[he];simp
     ·simp;omega
    rw[this];rfl
   |false=>
    have:firstBad (badNext code.length) code=some (code.length-1):=firstBad_some _ _ _ (by omega) (by
     rw[badNext_eq _ _ _ (hi _ (by omega)),he];simp;right;omega) λj hj hjk=>by
     rw[badNext_eq _ _ _ (hi j hj),h2 j hj];simp;omega
    rw[this];have e:((code.length-1:Nat):Int)=(code.length:Int)-1:=by omega
    simp only[e];rfl
theorem fitsV_nonneg(m:Nat)(hm:m<21)(a d:Int)(alts:List LAlt)(hg:insG m a alts=true)(hf:fitsV m a d=true):0<=d:=by
 obtain⟨a1,a2,a3,a4,-,-⟩:=insG_a m hm a alts hg;clear hg;have t1:m≠0->0<=a.tmod 256∧a.tmod 256<256:=λh=>⟨Int.tmod_nonneg _ (a1 h).1,Int.tmod_lt_of_pos _ (by omega)⟩;unfold fitsV needV amt at hf;rcases all21 m hm with rfl|rfl|rfl|rfl|rfl|rfl|rfl|rfl|rfl|rfl|rfl|rfl|rfl|rfl|rfl|rfl|rfl|rfl|rfl|rfl|rfl;all_goals
  simp[rowN,rowsTab,wrap64]at hf a1 a2 a3 a4 t1;omega
theorem fine_of{code:List LIns}(hg:codeG code=true)(h0:code.length≠0)(hn:firstBad (badNext code.length) code=none):Fine2 code:=by
 have hi:=codeG_ins hg;have hnn:=firstBad_none_spec hn;refine⟨⟨by omega,codeG_len hg,λk hk=>insG_op (hi k hk),λk hk s hs=>?_,λk hk=>⟨λh=>insG_a18 (hi k hk) (by omega),?_⟩,λk hk=>?_,λk hk d dv hd hd1 ho=>?_⟩,hi⟩
 ·have h1:=hnn k hk;unfold badNext at h1;rw[List.any_eq_false]at h1;have:=h1 s hs;simpa using this
 ·intro al hal;rcases insG_alts (hi k hk) with⟨-,h1⟩|⟨-,h1⟩
  ·exact(altsGood_to h1).2 al hal
  ·rw[h1]at hal;cases hal
 ·rcases insG_alts (hi k hk) with⟨-,h1⟩|⟨-,h1⟩
  ·exact(altsGood_to h1).1
  ·rw[h1];simp
 ·unfold outD at ho;by_cases e2:d=-2
  ·rw[if_pos e2]at ho;cases ho;omega
  ·rw[if_neg e2]at ho;have hop:=insG_op (hi k hk);obtain⟨m,hm⟩:=Int.eq_ofNat_of_zero_le hop.1;have em:code[k].op.toNat=m:=by rw[hm];simp
   have hg2:=hi k hk;rw[em]at ho;rw[hm]at hg2;by_cases hf:fitsV m code[k].a d=true
   ·rw[if_pos hf]at ho;have hnd:=fitsV_nonneg m (by omega) _ d _ hg2 hf;obtain⟨f1,f2⟩:=eff_math m (by omega) _ d _ hg2 hnd (by omega);rw[hf]at f1;have hw:wrongR m code[k].a d=false:=by cases h:wrongR m code[k].a d;rfl;rw[h]at f1;cases f1
    obtain⟨g1,g2,g3⟩:=f2 hw;cases ho;omega
   ·rw[if_neg hf]at ho;cases ho
def refOf:Option (Nat×Nat)->Value
 |some (e,k)=>.tuple #[.int .i64 ((12:Int)+e),.int .i64 (k:Int)]
 |none=>.tuple #[.int .i64 0,.int .i64 0]
theorem badD_eq{dep:List Int}{x:LIns}{k:Nat}{m:Nat}(hm:x.op=(m:Int))(hm21:m<21)(hg:insG m x.a x.alts=true)(hok:okd (dep.getD k 0)):badD dep x k=((dep.getD k 0 !=-1) && ((dep.getD k 0==-2)||wrongR m x.a (dvI (dep.getD k 0)))):=by
 unfold badD;have em:x.op.toNat=m:=by rw[hm];simp
 rw[em];generalize dep.getD k 0=d at*;rcases hok with rfl|rfl|⟨h1,h2⟩
 ·rfl
 ·rfl
 ·have e1:(d==-2)=false:=by rw[beq_eq_false_iff_ne];omega
  have e2:(d !=-1)=true:=by rw[bne_iff_ne];omega
  have e3:dvI d=d:=by unfold dvI;rw[if_neg (by omega)]
  obtain⟨f1,-⟩:=eff_math m hm21 _ d _ hg h1 (by omega);rw[e1,e2,e3,f1];simp
end Go.Proofs.YtahmgjjgikgpoaaGreatDoor
namespace Go.Proofs.YtahmgjjgikgpoaaGreatDoor
open Go.RowKit Go.Sort
theorem badNext_true{n:Nat}{x:LIns}{k s:Nat}(hs:s∈succs x k)(hn:n<=s):badNext n x k=true:=by
 unfold badNext;rw[List.any_eq_true];exact⟨s,hs,by simpa using hn⟩
theorem badNext_false{n:Nat}{x:LIns}{k:Nat}(h:∀j (hj:j<(succs x k).length),(succs x k)[j]<n):badNext n x k=false:=by
 unfold badNext;rw[List.any_eq_false];intro s hs;obtain⟨j,hj,rfl⟩:=List.getElem_of_mem hs;have:=h j hj;simp;omega
def G3(w:World)(b:Nat)(nm:ByteArray)(ar:Int)(ex:Bool):Prop:=w.cell? ⟨b,0,none⟩=some (.string nm)∧w.cell? ⟨b,1,none⟩=some (.int .i64 ar)∧w.cell? ⟨b,2,none⟩=some (.bool ex)
theorem G3.keep{w w':World}{b:Nat}{nm:ByteArray}{ar:Int}{ex:Bool}(h:G3 w b nm ar ex)(hb:Below w.heap.size w w'):G3 w' b nm ar ex:=⟨cell_keep hb h.1,cell_keep hb h.2.1,cell_keep hb h.2.2⟩
def DepthsOk:Prop:=∀(nm:ByteArray) (ar:Int) (ex:Bool) (v:Value) (code:List LIns) (w:World),CodeAt w v code->Fine2 code->(0<=ar∧ar<=20)->Calls Tryz.prog 74 #[.agg #[.string nm,.int .i64 ar,.bool ex,v]] w λe w'=>DepRes code (ar+1) e w'∧Below w.heap.size w w'
theorem global_try(HDO:Hid DepthsOk)(nm:ByteArray)(ar:Int)(ex:Bool)(v:Value)(code:List LIns)(most:Int)(w:World)(hC:CodeAt w v code)(hG:codeG code=true)(ha:0<=ar∧ar<=20):
 Calls Tryz.prog 53 #[.agg #[.string nm,.int .i64 ar,.bool ex,v],.int .i64 most] w λe w'=>e=.returned (refOf (gBad code (ar+1) most))∧Below w.heap.size w w':=by
 obtain⟨p,cap,rfl,hs1,hcell⟩:=hC.open;have hmost:=codeG_len hG;have HC:Hid (∀w',Below w.heap.size w w'->CodeIn w' p code):=hcell;have HCA:Hid (CodeAt w (.slice p code.length cap) code):=hC;have HG:Hid (codeG code=true):=hG;have HA:Hid (0<=ar∧ar<=20):=ha;clear hcell hC hG ha;go_enter Tryz.func53,Tryz.ntmps53;go_wp2;go_loopw [7] (λi wr=>∃k:Nat,k<=code.length∧i=.int .i64 k∧Hid (∀j (h:j<code.length),j<k->badIdx most code[j] j=false)∧Hid (Below w.heap.size w wr)∧wr.cell? ⟨w.heap.size,3,none⟩=some (.slice p code.length cap)∧w.heap.size<wr.heap.size∧Hid (G3 wr w.heap.size nm ar ex)) (λi _=>code.length-(intOf i).toNat)
 case atStart=>exact⟨0,Nat.zero_le _,rfl,λ_ _ h=>absurd h (by omega),(Below.refl _ _).alloc (Nat.le_refl _) _,by simp,by simp,⟨by simp,by simp,by simp⟩⟩
 case round=>
  obtain⟨k,hk,rfl,ha,hb,q3,hz,hg3⟩:=hrel;by_cases hlt:k<code.length
  ·obtain⟨b,o,ap,an,ac,rfl,c0,c1,c2,_⟩:=HC.out _ hb.out k hlt;have HB:Hid (badIdx most code[k] k=((code[k].op==1) && decide (most<=code[k].a))):=rfl;generalize code[k].op=op at*;generalize code[k].a=a at*;go_wp2;any_goals
    go_ret2
    exact⟨ret_val (by rw[gBad_idx (firstBad_some _ _ k hlt (by rw[HB.out];simp_all) ha.out)];rfl),hb.out⟩
   all_goals exact⟨⟨k+1,by omega,by go_num,firstBad_next _ _ k hlt ha.out (by rw[HB.out];simp_all),hb,q3,hz,hg3⟩,by simp[intOf];omega⟩
  ·have HN1:Hid (firstBad (badIdx most) code=none):=firstBad_none _ _ (λj h=>ha.out j h (by omega));clear ha;by_cases h0:code.length=0
   ·have t0:((code.length:Int)==0)=true:=by simp[h0]
    have HE:Hid (gBad code (ar+1) most=some (1,0)):=gBad_empty HN1.out h0;clear h0;go_wp2;go_ret2
    exact⟨ret_val (by rw[HE.out];rfl),hb.out⟩
   ·have t0:((code.length:Int)==0)=false:=by rw[beq_eq_false_iff_ne];omega
    have hpos:0<code.length:=by omega
    have H0:Hid (code.length≠0):=h0;clear h0;rename World=>W1
    go_wp2;go_loopw [8] (λi wr=>∃k:Nat,k<=code.length∧i=.int .i64 k∧Hid (∀j (h:j<code.length),j<k->badNext code.length code[j] j=false)∧Hid (Below w.heap.size w wr)∧wr.cell? ⟨w.heap.size,3,none⟩=some (.slice p code.length cap)∧w.heap.size<wr.heap.size∧Hid (G3 wr w.heap.size nm ar ex)) (λi _=>code.length-(intOf i).toNat)
    case atStart=>exact⟨0,Nat.zero_le _,rfl,λ_ _ h=>absurd h (by omega),hb,q3,hz,hg3⟩
    case round=>
     clear q3 hz hb hg3;obtain⟨k,hk,rfl,ha,hb,q3,hz,hg3⟩:=hrel;by_cases hlt:k<code.length
     ·obtain⟨b,o,ap,an,ac,rfl,c0,c1,c2,hA⟩:=HC.out _ hb.out k hlt;have hgd:=codeG_ins HG.out k hlt;have hop:=insG_op hgd;obtain⟨m,hm⟩:=Int.eq_ofNat_of_zero_le hop.1;have hm21:m<21:=by omega
      have hgd0:=hgd;rw[hm]at hgd0 c0;have HSU:Hid (succI m code[k].a code[k].alts k=(succs code[k] k).map λs:Nat=>(s:Int)):=succI_map m code[k] k hm21 hm hgd0;have hal:code[k].alts.length<=256:=by
       rcases insG_alts hgd with⟨-,h1⟩|⟨-,h1⟩
       ·exact(altsGood_to h1).1
       ·rw[h1];simp
      have HSL:Hid ((succs code[k] k).length<=256):=succs_len hal;have HNX:Hid (Calls Tryz.prog 73 #[.agg #[.int .i64 m,.int .i64 code[k].a,.slice ap an ac],.int .i64 k] wr λe w''=>(∃v,e=.returned v∧OwnInts w'' wr.heap.size v (succI m code[k].a code[k].alts k))∧Below wr.heap.size wr w''):=next_any m _ code[k].alts _ k wr hA hal (by omega);clear hA hgd hop hm hgd0 hal;rename World=>W2
      go_wp2_with (first|(go_at_call 73;refine(HNX.out).mono ?_;rintro e w5 ⟨⟨v10,rfl,ho⟩,hb5⟩))
      have HB5:Hid (Below w.heap.size w w5):=hb.out.trans (hb5.mono (by have:=hb.out.size;omega));have q35:=cell_keep hb5 q3;have HG35:Hid (G3 w5 w.heap.size nm ar ex):=hg3.out.keep hb5;have hz5:w.heap.size<w5.heap.size:=by have:=hb5.size;omega
      rw[HSU.out]at ho;obtain⟨q,qc,ev,hin⟩:=ho.open;subst ev;have HIN:Hid (IntsIn w5 W2.heap.size q ((succs code[k] k).map λs:Nat=>(s:Int))):=hin;clear hin ho HNX c0 c1 c2 q3 hz hb hb5 HSU;have HBF:Hid ((∀j (hj:j<(succs code[k] k).length),(succs code[k] k)[j]<code.length)->badNext code.length code[k] k=false):=λh=>badNext_false h;have HBT:Hid (∀s,s∈succs code[k] k->code.length<=s->badNext code.length code[k] k=true):=λs hs hn=>badNext_true hs hn;rw[List.length_map];generalize succs code[k] k=sl at*;have hsl:=HSL.out;go_loopw [10] (λi wr=>∃j:Nat,j<=sl.length∧i=.int .i64 j∧Hid (∀j' (h:j'<sl.length),j'<j->sl[j']<code.length)∧wr=w5) (λi _=>sl.length-(intOf i).toNat)
      case atStart=>exact⟨0,Nat.zero_le _,rfl,λ_ _ h=>absurd h (by omega),rfl⟩
      case round=>
       obtain⟨j,hj,rfl,hlow,rfl⟩:=hrel;by_cases hjl:j<sl.length
       ·obtain⟨tb,eq2,hlo2,htb,hcell⟩:=HIN.out j (by simpa using hjl);subst eq2;simp only[List.getElem_map]at hcell;have HM:Hid (sl[j]∈sl):=List.getElem_mem hjl;have HLN:Hid (sl[j]<code.length->∀j' (h:j'<sl.length),j'<j+1->sl[j']<code.length):=by
         intro h1 j' h hj';by_cases e:j'=j
         ·subst e;exact h1
         ·exact hlow.out j' h (by omega)
        generalize sl[j]=s at*;by_cases hs:code.length<=s
        ·have HJ:Hid (gBad code (ar+1) most=some (1,k)):=gBad_jump HN1.out H0.out (firstBad_some _ _ k hlt (HBT.out s HM.out hs) ha.out);have hs':(code.length:Int)<=(s:Int):=by omega
         go_wp2;go_ret2
         exact⟨ret_val (by rw[HJ.out];rfl),HB5.out⟩
        ·have hs':(s:Int)<(code.length:Int):=by omega
         have HLN2:=hid (HLN.out (by omega));go_wp2;exact⟨⟨j+1,by omega,by go_num,HLN2,trivial⟩,by simp[intOf];omega⟩
       ·have HK:Hid (badNext code.length code[k] k=false):=HBF.out λj' h=>hlow.out j' h (by omega);go_wp2;exact⟨⟨k+1,by omega,by go_num,firstBad_next _ _ k hlt ha.out HK.out,HB5,q35,hz5,HG35⟩,by simp[intOf];omega⟩
     ·have HN2:Hid (firstBad (badNext code.length) code=none):=firstBad_none _ _ (λj h=>ha.out j h (by omega));have HF:Hid (Fine2 code):=fine_of HG.out H0.out HN2.out;have HDC:Hid (Calls Tryz.prog 74 #[.agg #[.string nm,.int .i64 ar,.bool ex,.slice p code.length cap]] wr λe w'=>DepRes code (ar+1) e w'∧Below wr.heap.size wr w'):=HDO.out nm ar ex _ code wr (HCA.out.keep hb.out) HF.out HA.out;clear ha;obtain⟨q0,q1,q2⟩:=hg3.out;rename World=>W2
      go_wp2_with (first|(go_at_call 74;refine(HDC.out).mono ?_;rintro e w5 ⟨⟨E,dep,rfl,hL,hD,hok⟩,hb5⟩))
      have HB5:Hid (Below w.heap.size w w5):=hb.out.trans (hb5.mono (by have:=hb.out.size;omega));have q35:=cell_keep hb5 q3;have hz5:w.heap.size<w5.heap.size:=by have:=hb5.size;omega
      have HDP:Hid (DepsAt w5 E dep):=hD;have HGD:Hid (gBad code (ar+1) most=(firstBad (badD dep) code).map λk=>(2,k)):=gBad_depth HN1.out H0.out HN2.out hL;have HOK:Hid (∀i,i<code.length->okd (dep.getD i 0)):=hok;have HLE:Hid (dep.length=code.length):=hL.post.len;clear hL hD hok hb5 hb q0 q1 q2 q3 hz hg3 HDC;go_loopw [12] (λi wr=>∃k:Nat,k<=code.length∧i=.int .i64 k∧Hid (∀j (h:j<code.length),j<k->badD dep code[j] j=false)∧Hid (DepsAt wr E dep)∧Hid (Below w.heap.size w wr)∧wr.cell? ⟨w.heap.size,3,none⟩=some (.slice p code.length cap)∧w.heap.size<wr.heap.size) (λi _=>code.length-(intOf i).toNat)
      case atStart=>exact⟨0,Nat.zero_le _,rfl,λ_ _ h=>absurd h (by omega),HDP,HB5,q35,hz5⟩
      case round=>
       clear HDP HB5 q35 hz5;obtain⟨k,hk,rfl,ha,hD,hb,q3,hz⟩:=hrel;by_cases hlt:k<code.length
       ·obtain⟨b,o,ap,an,ac,rfl,c0,c1,c2,-⟩:=HC.out _ hb.out k hlt;have hgd:=codeG_ins HG.out k hlt;have hop:=insG_op hgd;obtain⟨m,hm⟩:=Int.eq_ofNat_of_zero_le hop.1;have hm21:m<21:=by omega
        rw[hm]at hgd c0;have HBD:Hid (badD dep code[k] k=((dep.getD k 0 !=-1) && ((dep.getD k 0==-2)||wrongR m code[k].a (dvI (dep.getD k 0))))):=badD_eq hm hm21 hgd (HOK.out k hlt);have hdl:=HLE.out;have edk:dep[k]'(by omega)=dep.getD k 0:=by simp[List.getD,show k<dep.length by omega]
        have e0:=hD.out.c0 k (by omega);have e1:=hD.out.c1 k (by omega);have e2:=hD.out.c2 k (by omega);rw[edk]at e0 e1 e2;have hok:=HOK.out k hlt;have hdv:0<=dvI (dep.getD k 0)∧dvI (dep.getD k 0)<=100000:=by unfold dvI;unfold okd at hok;split<;>omega
        have HW:Hid (∀w,Calls Tryz.prog 75 #[.agg #[.int .i64 m,.int .i64 code[k].a,.slice ap an ac],.int .i64 (dvI (dep.getD k 0))] w λe w'=>e=.returned (.bool (wrongR m code[k].a (dvI (dep.getD k 0))))∧Below w.heap.size w w'):=λw=>wrong_any m hm21 _ _ ap an ac w (insG_a m hm21 _ _ hgd).1 hdv;have hk1:(0:Int)<=(k:Int):=by omega
        have hk2:(k:Int)<(code.length:Int):=by omega
        have hdd:(dep.getD k 0==-2)=true->(dep.getD k 0 !=-1)=true:=by intro h;rw[beq_iff_eq]at h;rw[h];rfl
        clear hgd hop hm hdl edk hok hdv;generalize code[k].a=a at*;generalize (dep.getD k 0 !=-1)=r at*;generalize (dep.getD k 0==-2)=t at*;generalize dvI (dep.getD k 0)=dv at*;rename World=>W3
        have q3r:=cell_regrown q3;have c0r:=cell_regrown c0;have c1r:=cell_regrown c1;have c2r:=cell_regrown c2;have e2r:=cell_regrown e2;have hk3:(k:Int)<(dep.length:Int):=by have:=HLE.out;omega
        generalize wrongR m a dv=wr1 at*;go_wp2;refine wp_region_quiet_below (by kernel_rfl) (by kernel_rfl) ?_;repeat (first|go_big_quiet_step (first|(go_at_call 75;exact Calls.regrown_of (HW.out _)))|quiet_step (first|(go_at_call 75;exact Calls.regrown_of (HW.out _))))
        refine wpQuiet_nil ?_;intro _ hw';obtain⟨⟨dq,osq⟩,hw''⟩:=hw';subst hw'';have hb3:=below_regrown W3 dq osq;generalize grow (redrawn W3 dq) osq=W4 at*;have e0':=cell_keep hb3 e0;have e1':=cell_keep hb3 e1;have q3':=cell_keep hb3 q3;have HB4:Hid (Below w.heap.size w W4):=hb.out.trans (hb3.mono hb.out.size);have HD4:Hid (DepsAt W4 E dep):=hD.out.keep hb3;have hz4:w.heap.size<W4.heap.size:=by have:=hb3.size;omega
        clear q3r c0r c1r c2r e2r e0 e1 e2 c0 c1 c2 q3 hb3 hb hD HW;cases r<;>cases t<;>cases wr1;all_goals first|(exfalso;exact absurd (hdd rfl) (by decide))|clear hdd
        all_goals
         go_wp2;first
          |(go_ret2;exact⟨ret_val (by rw[HGD.out,firstBad_some _ _ k hlt (by rw[HBD.out];rfl) ha.out];rfl),HB4.out⟩)
          |exact⟨⟨k+1,by omega,by go_num,firstBad_next _ _ k hlt ha.out (by rw[HBD.out];rfl),HD4,HB4,q3',hz4⟩,by simp[intOf];omega⟩
       ·have HN3:Hid (firstBad (badD dep) code=none):=firstBad_none _ _ (λj h=>ha.out j h (by omega));go_wp2;go_ret2
        exact⟨ret_val (by rw[HGD.out,HN3.out];rfl),hb.out⟩
noncomputable def sBad(most:Int):List LGlob->Nat->Option (Nat×Nat×Nat)
 |[],_=>none
 |g::r,k=>match gBad g.code (g.arity+1) most with
  |some (e,i)=>some (e,k,i)
  |none=>sBad most r (k+1)
theorem sBad_some{most:Int}{l:List LGlob}{k e i:Nat}(hk:k<l.length)(h:gBad l[k].code (l[k].arity+1) most=some (e,i)):sBad most (l.drop k) k=some (e,k,i):=by
 rw[List.drop_eq_getElem_cons hk,sBad,h]
theorem sBad_next{most:Int}{l:List LGlob}{k:Nat}(hk:k<l.length)(h:gBad l[k].code (l[k].arity+1) most=none):sBad most (l.drop k) k=sBad most (l.drop (k+1)) (k+1):=by
 rw[List.drop_eq_getElem_cons hk,sBad,h]
def resS:Option (Nat×Nat×Nat)->Value
 |some (e,k,i)=>.tuple #[.int .i64 ((12:Int)+e),.agg #[.int .i64 (k:Int),.int .i64 (i:Int)]]
 |none=>.tuple #[.int .i64 0,.agg #[.int .i64 0,.int .i64 0]]
def P2(w:World)(b:Nat):Prop:=w.cell? ⟨b,0,none⟩=some (.int .i64 0)∧w.cell? ⟨b,1,none⟩=some (.int .i64 0)∧w.frozen? ⟨b,0,none⟩=false∧w.frozen? ⟨b,1,none⟩=false
theorem P2.keep{w w':World}{b:Nat}(h:P2 w b)(hb:Below w.heap.size w w'):P2 w' b:=by
 have hl:=block_lt_of_cell h.1;exact⟨cell_keep hb h.1,cell_keep hb h.2.1,by rw[(bcell hb).2 _ _ hl];exact h.2.2.1,by rw[(bcell hb).2 _ _ hl];exact h.2.2.2⟩
theorem P2.put{w:World}{b:Nat}(h:P2 w b)(x y:Value):(w.setCell ⟨b,0,none⟩ x).cell? ⟨b,0,none⟩=some x∧((w.setCell ⟨b,0,none⟩ x).setCell ⟨b,1,none⟩ y).cell? ⟨b,1,none⟩=some y:=by
 refine⟨World.cell?_setCell_same _ _ _ h.1,World.cell?_setCell_same _ _ _ (u:=.int .i64 0) ?_⟩;rw[World.cell?_setCell_other _ _ _ _ (by intro e;have:=congrArg Addr.off e;simp at this)];exact h.2.1
def GoodGs(l:List LGlob):Prop:=∀k (hk:k<l.length),codeG l[k].code=true∧0<=l[k].arity∧l[k].arity<=20
def GlobalOk:Prop:=∀(nm:ByteArray) (ar:Int) (ex:Bool) (v:Value) (code:List LIns) (most:Int) (w:World),CodeAt w v code->codeG code=true->(0<=ar∧ar<=20)->
 Calls Tryz.prog 53 #[.agg #[.string nm,.int .i64 ar,.bool ex,v],.int .i64 most] w λe w'=>e=.returned (refOf (gBad code (ar+1) most))∧Below w.heap.size w w'
theorem refSound_try(HGO:Hid GlobalOk)(nm:ByteArray)(iv gv:Value)(imps:List LImp)(globs:List LGlob)(w:World)(hI:ImpsAt w iv imps)(hG:GlobsAt w gv globs)(hg:GoodGs globs):
 Calls Tryz.prog 32 #[.agg #[.string nm,iv,gv]] w λe w'=>e=.returned (resS (sBad (imps.length+globs.length) globs 0))∧Below w.heap.size w w':=by
 obtain⟨ip,ic,rfl,hi1,-⟩:=hI.open;obtain⟨p,cap,rfl,hs1,hcell⟩:=hG.open;have HC:Hid (∀w',Below w.heap.size w w'->GlobsIn w' p globs):=hcell;have HG:Hid (GoodGs globs):=hg;clear hcell hG hg hI;go_enter Tryz.func32,Tryz.ntmps32;go_wp2;go_loopw [4] (λi wr=>∃k:Nat,k<=globs.length∧i=.int .i64 k∧Hid (sBad ((imps.length:Int)+(globs.length:Int)) globs 0=sBad ((imps.length:Int)+(globs.length:Int)) (globs.drop k) k)∧Hid (Below w.heap.size w wr)∧wr.cell? ⟨w.heap.size,1,none⟩=some (.slice ip imps.length ic)∧wr.cell? ⟨w.heap.size,2,none⟩=some (.slice p globs.length cap)∧w.heap.size+1<wr.heap.size∧Hid (P2 wr (w.heap.size+1))) (λi _=>globs.length-(intOf i).toNat)
 case atStart=>exact⟨0,Nat.zero_le _,rfl,rfl,((Below.refl _ _).alloc (Nat.le_refl _) _).alloc (by simp) _,by simp,by simp,by simp,⟨by simp,by simp,by simp,by simp⟩⟩
 case round=>
  obtain⟨k,hk,rfl,ha,hb,q1,q2,hz,hp2⟩:=hrel;by_cases hlt:k<globs.length
  ·obtain⟨b,o,cp,cn,cc,rfl,c0,c1,c2,c3,hC,hsz⟩:=HC.out _ hb.out k hlt;obtain⟨g1,g2⟩:=HG.out k hlt;have HGC:Hid (∀w',Below wr.heap.size wr w'->Calls Tryz.prog 53 #[.agg #[.string globs[k].name,.int .i64 globs[k].arity,.bool globs[k].exp,.slice cp cn cc],.int .i64 ((imps.length:Int)+(globs.length:Int))] w' λe w''=>e=.returned (refOf (gBad globs[k].code (globs[k].arity+1) ((imps.length:Int)+(globs.length:Int))))∧Below w'.heap.size w' w''):=λw' hbw=>HGO.out _ _ _ _ globs[k].code ((imps.length:Int)+(globs.length:Int)) w' (hC.keep hbw) g1 g2;have HS:Hid (∀e i,gBad globs[k].code (globs[k].arity+1) ((imps.length:Int)+(globs.length:Int))=some (e,i)->sBad ((imps.length:Int)+(globs.length:Int)) (globs.drop k) k=some (e,k,i)):=λe i h=>sBad_some hlt h;have HN:Hid (gBad globs[k].code (globs[k].arity+1) ((imps.length:Int)+(globs.length:Int))=none->sBad ((imps.length:Int)+(globs.length:Int)) (globs.drop k) k=sBad ((imps.length:Int)+(globs.length:Int)) (globs.drop (k+1)) (k+1)):=λh=>sBad_next hlt h;clear g1 g2 hC;generalize gBad globs[k].code (globs[k].arity+1) ((imps.length:Int)+(globs.length:Int))=r at*;generalize globs[k].name=gn at*;generalize globs[k].arity=gar at*;generalize globs[k].exp=gex at*;rename World=>W2
   have q1r:=cell_regrown q1;have q2r:=cell_regrown q2;have c0r:=cell_regrown c0;have c1r:=cell_regrown c1;have c2r:=cell_regrown c2;have c3r:=cell_regrown c3;cases r with
   |none=>
    have HR:Hid (refOf none=.tuple #[.int .i64 0,.int .i64 0]):=rfl;rw[HR.out]at HGC;go_wp2;refine wp_region_quiet_below (by kernel_rfl) (by kernel_rfl) ?_;repeat (first|go_big_quiet_step (first|(go_at_call 53;exact Calls.regrown_of (HGC.out _ (below_regrown _ _ _))))|quiet_step (first|(go_at_call 53;exact Calls.regrown_of (HGC.out _ (below_regrown _ _ _)))))
    refine wpQuiet_nil ?_;intro _ hw';obtain⟨⟨dq,osq⟩,hw''⟩:=hw';subst hw'';have hb3:=below_regrown W2 dq osq;generalize grow (redrawn W2 dq) osq=W4 at*;have HB4:Hid (Below w.heap.size w W4):=hb.out.trans (hb3.mono hb.out.size);have q1':=cell_keep hb3 q1;have q2':=cell_keep hb3 q2;have hz4:w.heap.size+1<W4.heap.size:=by have:=hb3.size;omega
    have HP4:Hid (P2 W4 (w.heap.size+1)):=hp2.out.keep hb3;clear q1r q2r c0r c1r c2r c3r q1 q2 c0 c1 c2 c3 hb3 hb HGC hp2;go_wp2;exact⟨⟨k+1,by omega,by go_num,by show _=_;rw[ha.out,HN.out (by trivial)],HB4,q1',q2',hz4,HP4⟩,by simp[intOf];omega⟩
   |some ei=>
    obtain⟨e,i⟩:=ei;have HR:Hid (refOf (some (e,i))=.tuple #[.int .i64 ((12:Int)+e),.int .i64 (i:Int)]):=rfl;rw[HR.out]at HGC;have HF:Hid (sBad ((imps.length:Int)+(globs.length:Int)) globs 0=some (e,k,i)):=by show _=_;rw[ha.out,HS.out e i rfl]
    have ht:((12:Int)+e !=0)=true:=by rw[bne_iff_ne];omega
    have HT:Hid (∀x,x=(12:Int)+e->resS (some (e,k,i))=.tuple #[.int .i64 x,.agg #[.int .i64 (k:Int),.int .i64 (i:Int)]]):=λx hx=>by rw[hx];rfl
    clear HR;generalize hee:(12:Int)+e=ee at*;clear hee;go_wp2;refine wp_region_quiet_below (by kernel_rfl) (by kernel_rfl) ?_;repeat (first|go_big_quiet_step (first|(go_at_call 53;exact Calls.regrown_of (HGC.out _ (below_regrown _ _ _))))|quiet_step (first|(go_at_call 53;exact Calls.regrown_of (HGC.out _ (below_regrown _ _ _)))))
    refine wpQuiet_nil ?_;intro _ hw';obtain⟨⟨dq,osq⟩,hw''⟩:=hw';subst hw'';have hb3:=below_regrown W2 dq osq;generalize grow (redrawn W2 dq) osq=W4 at*;have HB4:Hid (Below w.heap.size w W4):=hb.out.trans (hb3.mono hb.out.size);have q1':=cell_keep hb3 q1;have q2':=cell_keep hb3 q2;have hz4:w.heap.size+1<W4.heap.size:=by have:=hb3.size;omega
    have HP4:Hid (P2 W4 (w.heap.size+1)):=hp2.out.keep hb3;clear q1r q2r c0r c1r c2r c3r q1 q2 c0 c1 c2 c3 hb3 hb HGC hp2;obtain⟨p0,p1,p2,p3⟩:=HP4.out;go_wp2;obtain⟨s0,s1⟩:=HP4.out.put (.int .i64 (k:Int)) (.int .i64 (i:Int));refine bodyPost_ret (v:=.tuple #[.int .i64 ee,.agg #[.int .i64 (k:Int),.int .i64 (i:Int)]]) (by simp[results,Tryz.results32,go_sem,s0,s1]) rfl ?_;exact⟨ret_val (by rw[HF.out,HT.out _ rfl]),(HB4.out.setCell (by simp) _).setCell (by simp) _⟩
  ·obtain⟨p0,p1,p2,p3⟩:=hp2.out;go_wp2;obtain⟨s0,s1⟩:=hp2.out.put (.int .i64 0) (.int .i64 0);refine bodyPost_ret (v:=.tuple #[.int .i64 0,.agg #[.int .i64 0,.int .i64 0]]) (by simp[results,Tryz.results32,go_sem,s0,s1]) rfl ?_;exact⟨ret_val (by rw[ha.out,List.drop_of_length_le (by omega)];rfl),(hb.out.setCell (by simp) _).setCell (by simp) _⟩
def ObjsIn(w:World)(p:Option Addr)(l:List LObj):Prop:=
 ∀i (h:i<l.length),∃b o ip ic gp gc,p=some ⟨b,o,none⟩∧w.cell? ⟨b,o+i*3,none⟩=some (.string l[i].name)∧w.cell? ⟨b,o+i*3+1,none⟩=some (.slice ip l[i].imps.length ic)∧w.cell? ⟨b,o+i*3+2,none⟩=some (.slice gp l[i].globs.length gc)∧ObjAt w (.agg #[.string l[i].name,.slice ip l[i].imps.length ic,.slice gp l[i].globs.length gc]) l[i]
def ObjsAt(w:World)(v:Value)(l:List LObj):Prop:=∃p cap,v=.slice p l.length cap∧short l.length∧ObjsIn w p l
theorem ObjsIn.keep{w w':World}{p:Option Addr}{l:List LObj}(h:ObjsIn w p l)(hb:Below w.heap.size w w'):ObjsIn w' p l:=λi hi=>by
 obtain⟨b,o,ip,ic,gp,gc,e,h0,h1,h2,h3⟩:=h i hi;exact⟨b,o,ip,ic,gp,gc,e,cell_keep hb h0,cell_keep hb h1,cell_keep hb h2,h3.keep hb⟩
theorem ObjsAt.keep{w w':World}{v:Value}{l:List LObj}(h:ObjsAt w v l)(hb:Below w.heap.size w w'):ObjsAt w' v l:=by
 obtain⟨p,c,e,hs,h⟩:=h;exact⟨p,c,e,hs,h.keep hb⟩
theorem ObjAt.globs{w:World}{O:LObj}{s:ByteArray}{iv gv:Value}(h:ObjAt w (.agg #[.string s,iv,gv]) O):ImpsAt w iv O.imps∧GlobsAt w gv O.globs:=by
 obtain⟨ia,ga,e,-,h1,h2⟩:=h;obtain⟨-,rfl,rfl⟩:s=O.name∧iv=ia∧gv=ga:=by simpa using e
 exact⟨h1,h2⟩
theorem bqB(s t:ByteArray):(s.toList==t.toList)=decide (s=t):=by
 by_cases h:s=t
 ·subst h;simp
 ·rw[decide_eq_false h,beq_eq_false_iff_ne];exact λe=>h (Go.WideShapes.bytes_inj (by rwa[ByteArray.toList_eq,ByteArray.toList_eq]at e))
def fstF{α:Type}(p:Nat->α->Bool):List α->Nat->Option Nat
 |[],_=>none
 |x::r,k=>if p k x then some k else fstF p r (k+1)
theorem fstF_at{α:Type}(p:Nat->α->Bool)(l:List α){k:Nat}(hk:k<l.length):fstF p (l.drop k) k=if p k l[k] then some k else fstF p (l.drop (k+1)) (k+1):=by
 rw[List.drop_eq_getElem_cons hk,fstF]
theorem fstF_end{α:Type}(p:Nat->α->Bool)(l:List α){k:Nat}(hk:l.length<=k):fstF p (l.drop k) k=none:=by
 rw[List.drop_of_length_le hk,fstF]
theorem fstF_ge{α:Type}{p:Nat->α->Bool}:∀{l:List α} {k n:Nat},fstF p l k=some n->k<=n∧n<k+l.length
 |x::r,k,n,h=>by
  rw[fstF]at h;split at h
  ·cases h;simp
  ·have:=fstF_ge h;simp only[List.length_cons];omega
theorem fstF_none{α:Type}{p:Nat->α->Bool}:∀{l:List α} {k:Nat},fstF p l k=none->∀i (hi:i<l.length),p (k+i) l[i]=false
 |x::r,k,h,i,hi=>by
  rw[fstF]at h;split at h
  ·cases h
  ·rename_i hx
   cases i with
   |zero=>simpa using hx
   |succ j=>
    have:=fstF_none h j (by simpa using hi);rw[show k+(j+1)=k+1+j by omega];exact this
theorem fstF_congr{α:Type}{p q:Nat->α->Bool}:∀{l:List α} {k:Nat},(∀i (hi:i<l.length),p (k+i) l[i]=q (k+i) l[i])->fstF p l k=fstF q l k
 |[],_,_=>rfl
 |x::r,k,h=>by
  have e:fstF p r (k+1)=fstF q r (k+1):=fstF_congr λi hi=>by
   have:=h (i+1) (by simpa using hi);rw[show k+1+i=k+(i+1) by omega];exact this
  have e0:p k x=q k x:=h 0 (by simp);rw[fstF,fstF,e,e0]
def exG(t:ByteArray):List LGlob->Nat->Option (Nat×Int)
 |[],_=>none
 |g::r,n=>if g.exp && decide (g.name=t) then some (n,g.arity) else exG t r (n+1)
def exO(t:ByteArray):List LObj->Nat->Nat->Option (Nat×Nat×Int)
 |[],_,_=>none
 |O::r,k,n=>match exG t O.globs n with
  |some (m,a)=>some (m,k,a)
  |none=>exO t r (k+1) (n+O.globs.length)
def expo(Os:List LObj)(t:ByteArray):Option (Nat×Nat×Int):=exO t Os 0 0
def gBase(Os:List LObj)(k:Nat):Nat:=((Os.take k).map λO=>O.globs.length).sum
theorem gBase_succ{Os:List LObj}{k:Nat}(hk:k<Os.length):gBase Os (k+1)=gBase Os k+Os[k].globs.length:=by
 unfold gBase;rw[List.take_succ_eq_append_getElem hk,List.map_append,List.sum_append];simp
theorem exG_at(t:ByteArray)(l:List LGlob){j:Nat}(n:Nat)(hj:j<l.length):exG t (l.drop j) n=if l[j].exp && decide (l[j].name=t) then some (n,l[j].arity) else exG t (l.drop (j+1)) (n+1):=by
 rw[List.drop_eq_getElem_cons hj,exG]
theorem exO_at(t:ByteArray)(l:List LObj){k:Nat}(n:Nat)(hk:k<l.length):exO t (l.drop k) k n=match exG t l[k].globs n with
 |some (m,a)=>some (m,k,a)
 |none=>exO t (l.drop (k+1)) (k+1) (n+l[k].globs.length):=by
 rw[List.drop_eq_getElem_cons hk,exO]
noncomputable def okO(O:LObj):Bool:=valsG O && (sBad (O.imps.length+O.globs.length) O.globs 0).isNone
def twB(Os:List LObj)(k:Nat)(O:LObj):Bool:=O.globs.any λg=>g.exp && (match expo Os g.name with|some (_,who,_)=>decide (who<k)|none=>decide (0<k))
def miB(Os:List LObj)(O:LObj):Bool:=O.imps.any λi=>(expo Os i.name).isNone
def arB2(Os:List LObj)(O:LObj):Bool:=O.imps.any λi=>decide ((match expo Os i.name with|some (_,_,a)=>a|none=>0)≠i.arity)
def sz1(O:LObj):Nat:=(O.globs.map λg=>g.code.length).sum
def sz(Os:List LObj):Nat:=(Os.map sz1).sum
def orE(i:Nat)(a:Option Nat)(r:Option (Nat×Nat)):Option (Nat×Nat):=match a with
 |some k=>some (i,k)
 |none=>r
def lnkX(Os:List LObj)(entry:ByteArray):Option (Nat×Nat):=match expo Os entry with
 |none=>some (17,0)
 |some (_,_,a)=>if a≠0 then some (17,0) else if 200000<sz Os then some (18,0) else none
noncomputable def lnkE(Os:List LObj)(entry:ByteArray):Option (Nat×Nat):=
 if 8<Os.length then some (18,0) else orE 0 (fstF (λ_ O=>!okO O) Os 0) (orE 14 (fstF (twB Os) Os 0) (orE 15 (fstF (λ_=>miB Os) Os 0) (orE 16 (fstF (λ_=>arB2 Os) Os 0) (lnkX Os entry))))
def numb(Os:List LObj)(O:LObj)(first:Nat)(a:Int):Int:=
 if a<(O.imps.length:Int) then (match (O.imps[a.toNat]?).bind λi=>expo Os i.name with|some (n,_,_)=>(n:Int)|none=>-1) else (first:Int)+a-(O.imps.length:Int)
def mvI(Os:List LObj)(O:LObj)(first:Nat)(i:LIns):LIns:=if i.op=1 then {i with a:=numb Os O first i.a} else i
def mvG(Os:List LObj)(O:LObj)(first:Nat)(g:LGlob):LGlob:={g with code:=g.code.map (mvI Os O first)}
def imgF(Os:List LObj):List LObj->Nat->List LGlob
 |[],_=>[]
 |O::r,n=>O.globs.map (mvG Os O n)++imgF Os r (n+O.globs.length)
def img(Os:List LObj):List LGlob:=imgF Os Os 0
def imgE(Os:List LObj)(entry:ByteArray):Int:=match expo Os entry with|some (n,_,_)=>(n:Int)|none=>-1
end Go.Proofs.YtahmgjjgikgpoaaGreatDoor
namespace Go.Proofs.YtahmgjjgikgpoaaGreatDoor
open Go.RowKit Go.Sort Go.ChangeShapes Go.WideShapes
theorem cells_obj:Tryz.prog.cellsOf 50=3:=by kernel_rfl
theorem bytes_obj:Tryz.prog.bytesOf 50=64:=by kernel_rfl
theorem cells_imps:Tryz.prog.cellsOf 48=1:=by kernel_rfl
theorem cells_globs:Tryz.prog.cellsOf 47=1:=by kernel_rfl
end Go.Proofs.YtahmgjjgikgpoaaGreatDoor
