import Derived.Test.YtdpodpjdcfjfgaaGreatDoorRoomyJ
import Derived.Lib.SmallJoins
import Derived.Deep.Slices
import Derived.SizedLaws
import Derived.RegionTactic
import Derived.ChangeAlike
import Derived.Lib.Bytealg
set_option maxRecDepth 100000
set_option maxHeartbeats 4000000
namespace Go.Proofs.YtdpodpjdcfjfgaaGreatDoor
open Go.RowKit Go.Sort
def KeptI(iv iv':Value)(wx:World)(lo:Nat)(imps:List LImp):Prop:=(∃n c,iv=.slice none n c∧iv'=iv)∨(∃a n c,iv=.slice (some a) n c∧ImpsR wx lo iv' imps)
def KeptG(gv gv':Value)(w':World)(globs:List LGlob):Prop:=(∃n c,gv=.slice none n c∧gv'=gv)∨(∃a n c,gv=.slice (some a) n c∧GlobsR w' gv' globs)
theorem ImpsAt.names{w:World}{v:Value}{l:List LImp}(h:ImpsAt w v l):short l.length∧∀i (hi:i<l.length),l[i].name.size<=maxLen:=by
 obtain⟨p,cap,-,hs,hc⟩:=h;refine⟨hs,λi hi=>?_⟩;obtain⟨_,_,-,-,-,h⟩:=hc i hi;exact h
theorem AltsAt.short{w:World}{v:Value}{l:List LAlt}(h:AltsAt w v l):short l.length:=by
 obtain⟨p,cap,-,hs,-⟩:=h;exact hs
theorem CodeAt.shorts{w:World}{v:Value}{l:List LIns}(h:CodeAt w v l):short l.length∧∀j (hj:j<l.length),short l[j].alts.length:=by
 obtain⟨p,cap,-,hs,hc⟩:=h;refine⟨hs,λi hi=>?_⟩;obtain⟨_,_,_,-,-,-,-,h⟩:=hc i hi;exact h.short
theorem GlobsAt.names{w:World}{v:Value}{l:List LGlob}(h:GlobsAt w v l):short l.length∧∀i (hi:i<l.length),l[i].name.size<=maxLen∧short l[i].code.length∧∀j (hj:j<l[i].code.length),short l[i].code[j].alts.length:=by
 obtain⟨p,cap,-,hs,hc⟩:=h;refine⟨hs,λi hi=>?_⟩;obtain⟨_,_,_,-,-,-,-,-,h,hn⟩:=hc i hi;exact⟨hn,h.shorts⟩
theorem room_obj{w w':World}{O:LObj}{iv gv iv' gv':Value}(hO:ObjAt w (.agg #[.string O.name,iv,gv]) O)(hb:Below w.heap.size w w')(hI:RelI iv iv' w' 0 O.imps)(hG:KeptG gv gv' w' O.globs):ObjAt w' (.agg #[.string O.name,iv',gv']) O:=by
 obtain⟨ia,ga,e,hsz,hIA,hGA⟩:=hO;obtain⟨rfl,rfl⟩:iv=ia∧gv=ga:=by simpa using e
 refine⟨iv',gv',rfl,hsz,?_,?_⟩
 ·rcases hI with⟨n,c,-,rfl⟩|⟨a,n,c,-,h⟩
  ·exact hIA.keep hb
  ·exact h.at hIA.names.1 hIA.names.2
 ·rcases hG with⟨n,c,-,rfl⟩|⟨a,n,c,-,h⟩
  ·exact hGA.keep hb
  ·exact h.at hGA.names.1 hGA.names.2
theorem room_slices{w':World}{O:LObj}{iv' gv':Value}(h:ObjAt w' (.agg #[.string O.name,iv',gv']) O):∃p c q d,iv'=.slice p O.imps.length c∧gv'=.slice q O.globs.length d:=by
 obtain⟨ia,ga,e,-,hIA,hGA⟩:=h;obtain⟨rfl,rfl⟩:iv'=ia∧gv'=ga:=by simpa using e
 obtain⟨p,c,rfl,-⟩:=hIA.open;obtain⟨q,d,rfl,-⟩:=hGA.open;exact⟨_,_,_,_,rfl,rfl⟩
theorem lawNum_any(d:Int)(w:World):Calls Tryz.prog 17 #[.int .i64 d] w λe w'=>e=.returned (.int .i64 d)∧w'=w:=by
 go_enter Tryz.func17,Tryz.ntmps17;go_wp2;go_ret;exact⟨rfl,rfl⟩
structure C3 (w:World) (b:Nat) (x y z:Value):Prop where
 c0:w.cell? ⟨b,0,none⟩=some x
 c1:w.cell? ⟨b,1,none⟩=some y
 c2:w.cell? ⟨b,2,none⟩=some z
 lt:b<w.heap.size
theorem C3.keep{w w':World}{b:Nat}{x y z:Value}(h:C3 w b x y z)(hb:Below w.heap.size w w'):C3 w' b x y z:=⟨cell_keep hb h.c0,cell_keep hb h.c1,cell_keep hb h.c2,Nat.lt_of_lt_of_le h.lt hb.size⟩
theorem C3.new(w:World)(x y z:Value)(t:TypeId):C3 (w.alloc (.cells #[x,y,z] t)) w.heap.size x y z:=⟨alloc_cell w #[x,y,z] t 0 _ rfl,alloc_cell w #[x,y,z] t 1 _ rfl,alloc_cell w #[x,y,z] t 2 _ rfl,by simp⟩
structure C2 (w:World) (b:Nat) (x y:Value):Prop where
 c0:w.cell? ⟨b,0,none⟩=some x
 c1:w.cell? ⟨b,1,none⟩=some y
 lt:b<w.heap.size
theorem C2.keep{w w':World}{b:Nat}{x y:Value}(h:C2 w b x y)(hb:Below w.heap.size w w'):C2 w' b x y:=⟨cell_keep hb h.c0,cell_keep hb h.c1,Nat.lt_of_lt_of_le h.lt hb.size⟩
theorem C2.new(w:World)(x y:Value)(t:TypeId):C2 (w.alloc (.cells #[x,y] t)) w.heap.size x y:=⟨alloc_cell w #[x,y] t 0 _ rfl,alloc_cell w #[x,y] t 1 _ rfl,by simp⟩
end Go.Proofs.YtdpodpjdcfjfgaaGreatDoor
namespace Go.Proofs.YtdpodpjdcfjfgaaGreatDoor
open Go.RowKit Go.Sort Go.ChangeShapes Go.WideShapes
def Wt{H:Type}(t:TypeId)(d:DataW H):Prop:=∀n∈d.weights Tryz.prog t,n<=reachBytes
theorem all_mem{H:Type}{P:Program}{e:TypeId}:∀{l:List (DataW H)} {d:DataW H},d∈l->∀n∈d.weights P e,n∈DataW.weightsAll P e l
 |x::r,d,hd,n,hn=>by
  simp only[DataW.weightsAll,List.mem_append];rcases List.mem_cons.1 hd with rfl|h
  ·exact Or.inl hn
  ·exact Or.inr (all_mem h n hn)
theorem Wt.slice{H:Type}{t e:TypeId}{es sp:List (DataW H)}(hu:Tryz.prog.underlying t=some (.slice e))(h:Wt t (.slice es sp)):es.length*Tryz.prog.bytesOf e<=reachBytes∧∀d∈es,Wt e d:=by
 refine⟨?_,λd hd n hn=>h n ?_⟩
 ·have:=h ((es.length+sp.length)*Tryz.prog.bytesOf e) (by simp[DataW.weights,hu]);exact Nat.le_trans (Nat.mul_le_mul_right _ (by omega)) this
 ·simp only[DataW.weights,hu,List.mem_cons,List.mem_append];exact Or.inr (Or.inl (all_mem hd n hn))
theorem Wt.part{H:Type}{t:TypeId}{fs:Array Field}{parts:List (DataW H)}(hu:Tryz.prog.underlying t=some (.struct fs))(h:Wt t (.agg parts)){j:Nat}{f:Field}{d:DataW H}(hf:fs[j]?=some f)(hd:parts[j]?=some d):Wt f.type d:=by
 intro n hn;refine h n ?_;simp only[DataW.weights,hu];exact DataW.weights_mem_each (j:=j) (t:=f.type) (by simp[hf]) hd n hn
theorem slice_get{H:Type}{enc:TypeId×Value->H}{w:World}{spare:Nat->Bool}{held:Bool}{t e:TypeId}{k fuel:Nat}{v:Value}{x:DataW H×List MemPlace}(hu:Tryz.prog.underlying t=some (.slice e))(hk:Tryz.prog.cellsOf e=k)(hk0:0<k)(h:DataW.trod enc Tryz.prog w 0 spare held fuel t [v]=some x)(hw:Wt t x.1):
 v=.slice none 0 0∨∃a len cap n,v=.slice (some a) len cap∧len*Tryz.prog.bytesOf e<=reachBytes∧
  ∀i,i<len->∃b o cs y,a=⟨b,o,none⟩∧cs.length=k∧(∀j,j<k->w.cell? ⟨b,o+i*k+j,none⟩=cs[j]?)∧DataW.trod enc Tryz.prog w 0 spare held n e cs=some y∧Wt e y.1:=by
 rcases Go.Deep.open_slice hu h with⟨h0,-⟩|⟨a,len,cap,m,n,D,Pl,h0,-,hl,-,hm,rfl,hx⟩
 ·exact Or.inl (by simpa using h0)
 ·obtain rfl:v=.slice (some a) len cap:=by simpa using h0
  obtain⟨hs,he⟩:=hw.slice hu;refine Or.inr ⟨a,len,cap,n,rfl,by simpa using hs,λi hi=>?_⟩;have him:i<m:=by rw[hm];split<;>omega
  obtain⟨cs,hc,ht⟩:=hx i him;rw[hk]at hc;obtain⟨-,hlen,hcell⟩:=World.cells?_some hc;obtain⟨cs0,hc0,-⟩:=hx 0 (by omega);rw[hk]at hc0;obtain⟨-,hlen0,hcell0⟩:=World.cells?_some hc0;obtain⟨b,o,spot⟩:=a;have h1:=hcell0 0 hk0;rw[List.getElem?_eq_getElem (by omega)]at h1;have hspot:spot=none:=by simpa[Addr.add]using World.cell?_spot h1
  subst hspot;refine⟨b,o,cs,_,rfl,hlen,λj hj=>?_,ht,he _ ?_⟩
  ·have:=hcell j hj;rw[add_off,add_off]at this;exact this
  ·simp only[List.mem_map,List.mem_range];exact⟨i,hi,rfl⟩
theorem one_int{H:Type}{enc:TypeId×Value->H}{w:World}{spare:Nat->Bool}{held:Bool}{t:TypeId}{fuel:Nat}{cs:List Value}{y:DataW H×List MemPlace}(hu:Tryz.prog.underlying t=some (.int .i64))(h:DataW.trod enc Tryz.prog w 0 spare held fuel t cs=some y):∃n:Int,cs=[.int .i64 n]:=by
 obtain⟨n,h1,-⟩:=DataW.trod_int hu h;exact⟨n,h1⟩
theorem one_at{cs:List Value}{i k:Nat}{v:Value}(hk:k=1)(h:(cs.drop i).take k=[v]):cs[i]?=some v:=by
 subst hk;have h1:=congrArg (·[0]?) h;simpa[List.getElem?_take,List.getElem?_drop]using h1
theorem one_cell{cs:List Value}{i k:Nat}(hk:k=1)(hi:i<cs.length):∃v,(cs.drop i).take k=[v]∧cs[i]?=some v:=by
 subst hk;exact⟨cs[i],by rw[List.drop_eq_getElem_cons hi];rfl,List.getElem?_eq_getElem hi⟩
theorem cells_int:Tryz.prog.cellsOf 3=1:=by kernel_rfl
theorem cells_bool:Tryz.prog.cellsOf 4=1:=by kernel_rfl
theorem cells_string:Tryz.prog.cellsOf 9=1:=by kernel_rfl
theorem cells_alts:Tryz.prog.cellsOf 125=1:=by kernel_rfl
theorem cells_code:Tryz.prog.cellsOf 116=1:=by kernel_rfl
theorem cells_alt:Tryz.prog.cellsOf 130=2:=by kernel_rfl
theorem cells_ins:Tryz.prog.cellsOf 127=3:=by kernel_rfl
theorem cells_imp:Tryz.prog.cellsOf 115=2:=by kernel_rfl
theorem cells_glob:Tryz.prog.cellsOf 118=4:=by kernel_rfl
theorem bytes_alt:Tryz.prog.bytesOf 130=16:=by kernel_rfl
theorem bytes_ins:Tryz.prog.bytesOf 127=40:=by kernel_rfl
theorem bytes_imp:Tryz.prog.bytesOf 115=24:=by kernel_rfl
theorem bytes_glob:Tryz.prog.bytesOf 118=56:=by kernel_rfl
theorem alt_of{H:Type}{enc:TypeId×Value->H}{w:World}{spare:Nat->Bool}{held:Bool}{fuel:Nat}{cs:List Value}{y:DataW H×List MemPlace}(h:DataW.trod enc Tryz.prog w 0 spare held fuel 130 cs=some y):∃x:LAlt,cs[0]?=some (.int .i64 x.tag)∧cs[1]?=some (.int .i64 x.to):=by
 obtain⟨y0,y1,n,-,-,h0,h1⟩:=trod_struct2 Tryz.underlying130 h;obtain⟨a,e0⟩:=one_int Tryz.underlying3 h0;obtain⟨b,e1⟩:=one_int Tryz.underlying3 h1;exact⟨⟨a,b⟩,one_at cells_int e0,one_at cells_int e1⟩
theorem alts_of{H:Type}{enc:TypeId×Value->H}{w:World}{spare:Nat->Bool}{held:Bool}{fuel:Nat}{v:Value}{x:DataW H×List MemPlace}(h:DataW.trod enc Tryz.prog w 0 spare held fuel 125 [v]=some x)(hw:Wt 125 x.1):∃l:List LAlt,AltsAt w v l∧l.length*16<=140737488351232:=by
 rcases slice_get Tryz.underlying125 cells_alt (by omega) h hw with rfl|⟨a,len,cap,n,rfl,hs,hx⟩
 ·exact⟨[],⟨none,0,rfl,by simp[short],λi hi=>absurd hi (by simp)⟩,by simp⟩
 ·rw[bytes_alt]at hs;have:Inhabited LAlt:=⟨⟨0,0⟩⟩;obtain⟨f,hf⟩:=Go.Deep.choose_lt (α:=LAlt) (n:=len) (p:=λi x=>∃b o,a=⟨b,o,none⟩∧w.cell? ⟨b,o+i*2,none⟩=some (.int .i64 x.tag)∧w.cell? ⟨b,o+i*2+1,none⟩=some (.int .i64 x.to)) (λi hi=>by
   obtain⟨b,o,cs,y,rfl,-,hc,ht,-⟩:=hx i hi;obtain⟨x,h0,h1⟩:=alt_of ht;exact⟨x,b,o,rfl,(hc 0 (by omega)).trans h0,(hc 1 (by omega)).trans h1⟩)
  have hl:((List.range len).map f).length=len:=by simp
  refine⟨(List.range len).map f,⟨some a,cap,by rw[hl],?_,λi hi=>?_⟩,?_⟩
  ·rw[hl];simp only[short];unfold reachBytes at hs;omega
  ·rw[hl]at hi;obtain⟨b,o,e,h0,h1⟩:=hf i hi;exact⟨b,o,by rw[e],by simpa using h0,by simpa using h1⟩
  ·rw[hl];unfold reachBytes at hs;omega
theorem one_string{H:Type}{enc:TypeId×Value->H}{w:World}{spare:Nat->Bool}{held:Bool}{t:TypeId}{fuel:Nat}{cs:List Value}{y:DataW H×List MemPlace}(hu:Tryz.prog.underlying t=some .string)(h:DataW.trod enc Tryz.prog w 0 spare held fuel t cs=some y):∃s:ByteArray,cs=[.string s]∧s.size<=maxLen:=by
 obtain⟨s,h1,-,h2⟩:=DataW.trod_string hu h;exact⟨s,h1,h2⟩
theorem one_bool{H:Type}{enc:TypeId×Value->H}{w:World}{spare:Nat->Bool}{held:Bool}{t:TypeId}{fuel:Nat}{cs:List Value}{y:DataW H×List MemPlace}(hu:Tryz.prog.underlying t=some .bool)(h:DataW.trod enc Tryz.prog w 0 spare held fuel t cs=some y):∃b:Bool,cs=[.bool b]:=by
 obtain⟨b,h1,-⟩:=DataW.trod_bool hu h;exact⟨b,h1⟩
theorem imp_of{H:Type}{enc:TypeId×Value->H}{w:World}{spare:Nat->Bool}{held:Bool}{fuel:Nat}{cs:List Value}{y:DataW H×List MemPlace}(h:DataW.trod enc Tryz.prog w 0 spare held fuel 115 cs=some y):∃x:LImp,cs[0]?=some (.string x.name)∧cs[1]?=some (.int .i64 x.arity)∧x.name.size<=maxLen:=by
 obtain⟨y0,y1,n,-,-,h0,h1⟩:=trod_struct2 Tryz.underlying115 h;obtain⟨a,e0,hs⟩:=one_string Tryz.underlying9 h0;obtain⟨b,e1⟩:=one_int Tryz.underlying3 h1;exact⟨⟨a,b⟩,one_at cells_string e0,one_at cells_int e1,hs⟩
theorem imps_of{H:Type}{enc:TypeId×Value->H}{w:World}{spare:Nat->Bool}{held:Bool}{fuel:Nat}{v:Value}{x:DataW H×List MemPlace}(h:DataW.trod enc Tryz.prog w 0 spare held fuel 30 [v]=some x)(hw:Wt 30 x.1):∃l:List LImp,ImpsAt w v l∧l.length*24<=140737488351232:=by
 rcases slice_get Tryz.underlying30 cells_imp (by omega) h hw with rfl|⟨a,len,cap,n,rfl,hs,hx⟩
 ·exact⟨[],⟨none,0,rfl,by simp[short],λi hi=>absurd hi (by simp)⟩,by simp⟩
 ·rw[bytes_imp]at hs;have:Inhabited LImp:=⟨⟨⟨#[]⟩,0⟩⟩;obtain⟨f,hf⟩:=Go.Deep.choose_lt (α:=LImp) (n:=len) (p:=λi x=>∃b o,a=⟨b,o,none⟩∧w.cell? ⟨b,o+i*2,none⟩=some (.string x.name)∧w.cell? ⟨b,o+i*2+1,none⟩=some (.int .i64 x.arity)∧x.name.size<=maxLen) (λi hi=>by
   obtain⟨b,o,cs,y,rfl,-,hc,ht,-⟩:=hx i hi;obtain⟨x,h0,h1,h2⟩:=imp_of ht;exact⟨x,b,o,rfl,(hc 0 (by omega)).trans h0,(hc 1 (by omega)).trans h1,h2⟩)
  have hl:((List.range len).map f).length=len:=by simp
  refine⟨(List.range len).map f,⟨some a,cap,by rw[hl],?_,λi hi=>?_⟩,?_⟩
  ·rw[hl];simp only[short];unfold reachBytes at hs;omega
  ·rw[hl]at hi;obtain⟨b,o,e,h0,h1,h2⟩:=hf i hi;exact⟨b,o,by rw[e],by simpa using h0,by simpa using h1,by simpa using h2⟩
  ·rw[hl];unfold reachBytes at hs;omega
end Go.Proofs.YtdpodpjdcfjfgaaGreatDoor
namespace Go.Proofs.YtdpodpjdcfjfgaaGreatDoor
open Go.RowKit
def outD(x:LIns)(d:Int):Option Int:=if d=-2 then some (-2) else if fitsV x.op.toNat x.a d then some (behV x.op.toNat x.a d) else none
def succs(x:LIns)(k:Nat):List Nat:=if x.op=19∨x.op=20 then [] else if x.op=18 then [x.a.toNat] else if x.op=17 then x.alts.map λa=>a.to.toNat else [k+1]
def reachAll(s:List Int×List Nat)(l:List Nat)(d:Int):List Int×List Nat:=l.foldl (λs k=>reachL s.1 s.2 k d) s
def leaveL(x:LIns)(dep:List Int)(todo:List Nat)(k:Nat):List Int×List Nat:=
 match outD x (dep.getD k 0) with
 |none=>(dep,todo)
 |some d=>reachAll (dep,todo) (succs x k) d
theorem reachL_len(dep:List Int)(todo:List Nat)(k:Nat)(d:Int):(reachL dep todo k d).1.length=dep.length:=by unfold reachL;split<;>simp
theorem reachL_todo(dep:List Int)(todo:List Nat)(k:Nat)(d:Int):(reachL dep todo k d).2.length<=todo.length+1:=by unfold reachL;split<;>simp
theorem reachAll_len(l:List Nat)(d:Int):∀s:List Int×List Nat,(reachAll s l d).1.length=s.1.length:=by
 induction l with
 |nil=>intro s;rfl
 |cons k r ih=>intro s;show(reachAll (reachL s.1 s.2 k d) r d).1.length=_;rw[ih,reachL_len]
theorem reachAll_todo(l:List Nat)(d:Int):∀s:List Int×List Nat,(reachAll s l d).2.length<=s.2.length+l.length:=by
 induction l with
 |nil=>intro s;simp[reachAll]
 |cons k r ih=>
  intro s;have h1:=ih (reachL s.1 s.2 k d);have h2:=reachL_todo s.1 s.2 k d;show(reachAll (reachL s.1 s.2 k d) r d).2.length<=_;simp only[List.length_cons];omega
theorem reachAll_snoc(s:List Int×List Nat)(l:List Nat)(k:Nat)(d:Int):reachAll s (l++[k]) d=reachL (reachAll s l d).1 (reachAll s l d).2 k d:=by
 simp[reachAll]
theorem Walking.keep{w w':World}{base B D:Nat}{cv:Value}{dep:List Int}{tv:Value}{todo:List Nat}(h:Walking w base B D cv dep tv todo)(hb:Below w.heap.size w w'):Walking w' base B D cv dep tv todo:=by
 have k:=bcell hb;have own:w'.ownsRow base 3 1 tv todo.length (todo.map λa:Nat=>Value.int .i64 (a:Int)):=by
  refine⟨h.own.1,?_⟩;rcases h.own.2 with e|⟨g,cap,cur,e,hg,hh,r⟩
  ·exact Or.inl e
  ·refine Or.inr ⟨g,cap,cur,e,hg,?_,r⟩;have hlt:g<w.heap.size:=by
    rcases Nat.lt_or_ge g w.heap.size with hlt|hge
    ·exact hlt
    ·rw[Array.getElem?_eq_none hge]at hh;cases hh
   rw[hb.block g hlt];exact hh
 exact {hB:=h.hB,hD:=h.hD,ne:=h.ne,lB:=Nat.lt_of_lt_of_le h.lB hb.size,lD:=Nat.lt_of_lt_of_le h.lD hb.size,c0:=cell_keep hb h.c0,c1:=cell_keep hb h.c1,c2:=cell_keep hb h.c2,f2:=by rw[k.2 _ _ h.lB];exact h.f2,dc:=λi hi=>cell_keep hb (h.dc i hi),df:=λi hi=>by rw[k.2 _ _ h.lD];exact h.df i hi,own:=own,aB:=h.aB,aD:=h.aD}
structure Left (w0 w:World) (B D:Nat) (p:Option Addr) (cap:Nat) (code:List LIns) (dep:List Int) (tv:Value) (todo:List Nat) (k:Nat) (x:LIns) (m:Nat):Prop where
 walking:Walking w w0.heap.size B D (.slice p code.length cap) dep tv todo
 cod:CodeAt w0 (.slice p code.length cap) code
 tab:TabAt w0
 below:Below w0.heap.size w0 w
 len:code.length=dep.length
 hk:k<code.length
 hx:code[k]?=some x
 hn:dep.length<=65535
 hm:m<21
 op:x.op=m
 next:∀s∈succs x k,s<code.length
 nonneg:(m=18->0<=x.a)∧∀al∈x.alts,0<=al.to
 room:todo.length+x.alts.length+1<=200000
theorem leave_stop(w0 w:World)(B D:Nat)(p:Option Addr)(cap:Nat)(code:List LIns)(dep:List Int)(tv:Value)(todo:List Nat)(k:Nat)(x:LIns)(m:Nat)(h:Left w0 w B D p cap code dep tv todo k x m)(d:Int)(hd:dep.getD k 0=d)(h2:(d !=-2)=true)(hf:fitsV m x.a d=false):
 Calls Tryz.prog 195 #[.pointer (some ⟨B,0,none⟩),.int .i64 k] w λe w'=>e=.returned (.tuple #[])∧(∃tv',Walking w' w0.heap.size B D (.slice p code.length cap) dep tv' todo)∧Below w0.heap.size w w':=by
 obtain⟨p',cap',e,hs1,hcell⟩:=h.cod.open;obtain⟨rfl,-,rfl⟩:p=p'∧code.length=code.length∧cap=cap':=by simpa using e
 have hk:=h.hk;have hlen:=h.len;have hm:=h.hm;have ex:code[k]=x:=by have:=h.hx;rw[List.getElem?_eq_getElem hk]at this;simpa using this
 obtain⟨b,o,ap,an,ac,rfl,x0,x1,x2,hA⟩:=hcell w h.below k hk;rw[ex,h.op]at x0;rw[ex]at x1;have c0:=h.walking.c0;have c1:=h.walking.c1;have dk:=h.walking.dc k (by omega);have ed:dep[k]=d:=by rw[<-hd];simp[List.getD,show k<dep.length by omega]
 rw[ed]at dk;have lB:B<w.heap.size:=h.walking.lB;have lD:D<w.heap.size:=h.walking.lD;have lb:b<w.heap.size:=block_lt_of_cell x0;have nB:B≠w.heap.size:=by omega
 have nD:D≠w.heap.size:=by omega
 have nb:b≠w.heap.size:=by omega
 have hk1:(0:Int)<=(k:Int):=by omega
 have hk2:(k:Int)<(code.length:Int):=by omega
 have hk3:(k:Int)<(dep.length:Int):=by omega
 have HF:Hid (fitsV m x.a d=false):=hf;have HW:Hid (Walking w w0.heap.size B D (.slice (some ⟨b,o,none⟩) code.length cap) dep tv todo):=h.walking;have HT:Hid (TabAt w):=h.tab.keep h.below;have h0:=h.below.size;clear hcell hA e h ex hd ed hf hlen;generalize x.a=a at*;go_enter Tryz.func195,Tryz.ntmps195;go_wp2;go_region
 go_wp2_with (first|(go_at_call 196;refine(fits_tab m a d ap an ac _ hm ?_).mono ?_;exact HT.out.keep ((Below.refl _ _).alloc (Nat.le_refl _) _).drew;rintro e w1 ⟨he,hb1⟩;rw[HF.out]at he;subst he))
 have hb2:=(((Below.refl _ _).alloc (Nat.le_refl _) _).drew).trans (hb1.mono (by simp[World.drew]));exact bodyPost_ret (v:=.tuple #[]) (by simp[results,Tryz.results195,go_sem]) rfl ⟨rfl,⟨tv,HW.out.keep hb2⟩,hb2.mono h0⟩
theorem leave_one(w0 w:World)(B D:Nat)(p:Option Addr)(cap:Nat)(code:List LIns)(dep:List Int)(tv:Value)(todo:List Nat)(k:Nat)(x:LIns)(m:Nat)(h:Left w0 w B D p cap code dep tv todo k x m)(d dv:Int)(hd:dep.getD k 0=d)
 (h2:d=-2∧dv=-2∨(d !=-2)=true∧fitsV m x.a d=true∧dv=behV m x.a d) (s:Nat) (hs:s<code.length) (hms:m=18∧x.a=s∨((m:Int)==19)=false∧((m:Int)==20)=false∧((m:Int)==18)=false∧((m:Int)==17)=false∧s=k+1):
 Calls Tryz.prog 195 #[.pointer (some ⟨B,0,none⟩),.int .i64 k] w λe w'=>e=.returned (.tuple #[])∧(∃tv',Walking w' w0.heap.size B D (.slice p code.length cap) (reachL dep todo s dv).1 tv' (reachL dep todo s dv).2)∧Below w0.heap.size w w':=by
 obtain⟨p',cap',e,hs1,hcell⟩:=h.cod.open;obtain⟨rfl,-,rfl⟩:p=p'∧code.length=code.length∧cap=cap':=by simpa using e
 have hk:=h.hk;have hlen:=h.len;have hm:=h.hm;have hn:=h.hn;have hr:=h.room;have ex:code[k]=x:=by have:=h.hx;rw[List.getElem?_eq_getElem hk]at this;simpa using this
 obtain⟨b,o,ap,an,ac,rfl,x0,x1,x2,hA⟩:=hcell w h.below k hk;rw[ex,h.op]at x0;rw[ex]at x1;have c0:=h.walking.c0;have c1:=h.walking.c1;have dk:=h.walking.dc k (by omega);have ed:dep[k]=d:=by rw[<-hd];simp[List.getD,show k<dep.length by omega]
 rw[ed]at dk;have lB:B<w.heap.size:=h.walking.lB;have lD:D<w.heap.size:=h.walking.lD;have lb:b<w.heap.size:=block_lt_of_cell x0;have nB:B≠w.heap.size:=by omega
 have nD:D≠w.heap.size:=by omega
 have nb:b≠w.heap.size:=by omega
 have hk1:(0:Int)<=(k:Int):=by omega
 have hk2:(k:Int)<(code.length:Int):=by omega
 have hk3:(k:Int)<(dep.length:Int):=by omega
 have hk4:(k:Int)<65536:=by omega
 have HW:Hid (Walking w w0.heap.size B D (.slice (some ⟨b,o,none⟩) code.length cap) dep tv todo):=h.walking;have HT:Hid (TabAt w):=h.tab.keep h.below;have h0:=h.below.size;have HR:Hid (∀w1,Below w.heap.size w w1->Calls Tryz.prog 194 #[.pointer (some ⟨B,0,none⟩),.int .i64 s,.int .i64 dv] w1 λe w'=>e=.returned (.tuple #[])∧(∃tv',Walking w' w0.heap.size B D (.slice (some ⟨b,o,none⟩) code.length cap) (reachL dep todo s dv).1 tv' (reachL dep todo s dv).2)∧Below w0.heap.size w1 w'):=
  λw1 hb=>reach_any w0.heap.size B D _ dep tv todo s dv w1 (HW.out.keep hb) (by omega) hn (by omega) (Nat.le_trans h0 hb.size)
 clear hcell hA e h ex hd ed hlen hn hr;generalize x.a=a at*;generalize (reachL dep todo s dv)=rl at*;rcases hms with⟨rfl,rfl⟩|⟨t1,t2,t3,t4,rfl⟩
 ·rcases h2 with⟨rfl,rfl⟩|⟨g1,g2,rfl⟩
  ·skip
   go_enter Tryz.func195,Tryz.ntmps195;go_wp2;go_region
   go_wp2_with (first|(go_at_call 194;refine(HR.out _ ?_).mono ?_;exact((Below.refl _ _).alloc (Nat.le_refl _) _).drew;rintro e w3 ⟨rfl,hw3,hb3⟩))
   go_end0
   exact⟨rfl,hw3,(((Below.refl _ _).alloc h0 _).drew).trans hb3⟩
  ·have HF:Hid (fitsV 18 (s:Int) d=true):=g2;clear g2;go_enter Tryz.func195,Tryz.ntmps195;go_wp2;go_region
   go_wp2_with (first|(go_at_call 196;refine(fits_tab _ _ d ap an ac _ hm ?_).mono ?_;exact HT.out.keep ((Below.refl _ _).alloc (Nat.le_refl _) _).drew;rintro e w1 ⟨he,hb1⟩;rw[HF.out]at he;subst he;obtain⟨z0,z1⟩:=bcell hb1;have hz1:w.heap.size<w1.heap.size:=(by have:=hb1.size;simp[World.drew]at this;omega))|(go_at_call 250;refine(behind_tab _ _ d _ _ hm ?_).mono ?_;exact HT.out.keep (((Below.refl _ _).alloc (Nat.le_refl _) _).drew.trans (hb1.mono (by simp[World.drew])));rintro e w2 ⟨rfl,hb2⟩;obtain⟨z2,z3⟩:=bcell hb2)|(go_at_call 194;refine(HR.out _ ?_).mono ?_;exact(((Below.refl _ _).alloc (Nat.le_refl _) _).drew.trans (hb1.mono (by simp[World.drew]))).trans (hb2.mono (by omega));rintro e w3 ⟨rfl,hw3,hb3⟩))
   go_end0
   exact⟨rfl,hw3,((((Below.refl _ _).alloc h0 _).drew.trans (hb1.mono (by simp[World.drew];omega))).trans (hb2.mono (by omega))).trans hb3⟩
 ·rcases h2 with⟨rfl,rfl⟩|⟨g1,g2,rfl⟩
  ·skip
   go_enter Tryz.func195,Tryz.ntmps195;go_wp2;go_region
   go_wp2_with (first|(go_at_call 194;refine(HR.out _ ?_).mono ?_;exact((Below.refl _ _).alloc (Nat.le_refl _) _).drew;rintro e w3 ⟨rfl,hw3,hb3⟩))
   go_end0
   exact⟨rfl,hw3,(((Below.refl _ _).alloc h0 _).drew).trans hb3⟩
  ·have HF:Hid (fitsV m a d=true):=g2;clear g2;go_enter Tryz.func195,Tryz.ntmps195;go_wp2;go_region
   go_wp2_with (first|(go_at_call 196;refine(fits_tab _ _ d ap an ac _ hm ?_).mono ?_;exact HT.out.keep ((Below.refl _ _).alloc (Nat.le_refl _) _).drew;rintro e w1 ⟨he,hb1⟩;rw[HF.out]at he;subst he;obtain⟨z0,z1⟩:=bcell hb1;have hz1:w.heap.size<w1.heap.size:=(by have:=hb1.size;simp[World.drew]at this;omega))|(go_at_call 250;refine(behind_tab _ _ d _ _ hm ?_).mono ?_;exact HT.out.keep (((Below.refl _ _).alloc (Nat.le_refl _) _).drew.trans (hb1.mono (by simp[World.drew])));rintro e w2 ⟨rfl,hb2⟩;obtain⟨z2,z3⟩:=bcell hb2)|(go_at_call 194;refine(HR.out _ ?_).mono ?_;exact(((Below.refl _ _).alloc (Nat.le_refl _) _).drew.trans (hb1.mono (by simp[World.drew]))).trans (hb2.mono (by omega));rintro e w3 ⟨rfl,hw3,hb3⟩))
   go_end0
   exact⟨rfl,hw3,((((Below.refl _ _).alloc h0 _).drew.trans (hb1.mono (by simp[World.drew];omega))).trans (hb2.mono (by omega))).trans hb3⟩
def leI(a b:Int):Prop:=a=-1∨a=b∨b=-2
theorem leI.refl(a:Int):leI a a:=Or.inr (Or.inl rfl)
theorem leI.trans{a b c:Int}(h1:leI a b)(h2:leI b c):leI a c:=by unfold leI at*;omega
theorem leI.antisymm{a b:Int}(h1:leI a b)(h2:leI b a):a=b:=by unfold leI at*;omega
theorem leI.two(a:Int):leI a (-2):=Or.inr (Or.inr rfl)
theorem leI.bot(a:Int):leI (-1) a:=Or.inl rfl
def outI(x:LIns)(d:Int):Int:=if d=-1 then -1 else (outD x d).getD (-1)
theorem outI_mono(x:LIns){a b:Int}(h:leI a b):leI (outI x a) (outI x b):=by
 rcases h with rfl|rfl|rfl
 ·have:outI x (-1)=-1:=by simp[outI]
  rw[this];exact leI.bot _
 ·exact leI.refl _
 ·have:outI x (-2)=-2:=by simp[outI,outD]
  rw[this];exact leI.two _
structure PostFix (code:List LIns) (d0:Int) (g:List Int):Prop where
 len:g.length=code.length
 start:leI d0 (g.getD 0 0)
 step:∀k (hk:k<code.length),∀s∈succs code[k] k,leI (outI code[k] (g.getD k 0)) (g.getD s 0)
structure Least (code:List LIns) (d0:Int) (dep:List Int):Prop where
 post:PostFix code d0 dep
 least:∀g,PostFix code d0 g->∀i,i<code.length->leI (dep.getD i 0) (g.getD i 0)
theorem Least.unique{code:List LIns}{d0:Int}{a b:List Int}(ha:Least code d0 a)(hb:Least code d0 b):a=b:=by
 apply List.ext_getElem (by rw[ha.post.len,hb.post.len]);intro i h1 h2;have hi:i<code.length:=by rw[<-ha.post.len];exact h1
 have:=(ha.least b hb.post i hi).antisymm (hb.least a ha.post i hi);simpa[List.getD,h1,h2]using this
def rk(d:Int):Nat:=if d=-1 then 0 else if d=-2 then 2 else 1
def ranks(dep:List Int):Nat:=(dep.map rk).sum
theorem ranks_set:∀(dep:List Int) (k:Nat) (v:Int) (_:k<dep.length),ranks (dep.set k v)+rk (dep.getD k 0)=ranks dep+rk v
 |a::r,0,v,_=>by simp[ranks];omega
 |a::r,k+1,v,h=>by
  have:=ranks_set r k v (by simpa using h);simp[ranks]at*;omega
theorem rk_le(d:Int):rk d<=2:=by unfold rk;split<;>(try split)<;>omega
theorem ranks_le:∀dep:List Int,ranks dep<=2*dep.length
 |[]=>by simp[ranks]
 |a::r=>by
  have:=ranks_le r;have:=rk_le a;simp[ranks]at*;omega
theorem getD_set(l:List Int)(k i:Nat)(v:Int)(hk:k<l.length):(l.set k v).getD i 0=if i=k then v else l.getD i 0:=by
 by_cases e:i=k
 ·subst e;simp[List.getD,hk]
 ·rw[if_neg e];simp[List.getD,Ne.symm e]
theorem reachL_spec(dep:List Int)(todo:List Nat)(k:Nat)(d:Int)(hk:k<dep.length)(hd:d≠-1):
 (∀i,leI (dep.getD i 0) ((reachL dep todo k d).1.getD i 0))∧leI d ((reachL dep todo k d).1.getD k 0)∧
 (∀i,i∉(reachL dep todo k d).2->(reachL dep todo k d).1.getD i 0=dep.getD i 0)∧(∀i∈todo,i∈(reachL dep todo k d).2)∧(∀i∈(reachL dep todo k d).2,i∈todo∨i=k)∧
 (∀g:List Int,(∀i,leI (dep.getD i 0) (g.getD i 0))->leI d (g.getD k 0)->∀i,leI ((reachL dep todo k d).1.getD i 0) (g.getD i 0))∧
 ranks (reachL dep todo k d).1+todo.length≥ranks dep+(reachL dep todo k d).2.length∧todo.length<=(reachL dep todo k d).2.length:=by
 unfold reachL;by_cases h:dep.getD k 0=d∨dep.getD k 0=-2
 ·rw[if_pos h];refine⟨λi=>leI.refl _,?_,λ_ _=>rfl,λ_ h=>h,λ_ h=>Or.inl h,λg hg _=>hg,by simp⟩;show leI d (dep.getD k 0);rcases h with h|h
  ·rw[h];exact leI.refl _
  ·rw[h];exact leI.two _
 ·rw[if_neg h];have hr:=ranks_set dep k (if dep.getD k 0=-1 then d else -2) hk;refine⟨λi=>?_,?_,λi hi=>?_,λi hi=>by simp[hi],λi hi=>by simpa using hi,λg hg hgk i=>?_,?_⟩
  ·show leI _ ((dep.set k _).getD i 0);rw[getD_set _ _ _ _ hk];by_cases e:i=k
   ·subst e;rw[if_pos rfl];by_cases e2:dep.getD i 0=-1
    ·rw[e2];exact leI.bot _
    ·rw[if_neg e2];exact leI.two _
   ·rw[if_neg e];exact leI.refl _
  ·show leI d ((dep.set k _).getD k 0);rw[getD_set _ _ _ _ hk,if_pos rfl];by_cases e2:dep.getD k 0=-1
   ·rw[if_pos e2];exact leI.refl _
   ·rw[if_neg e2];exact leI.two _
  ·show(dep.set k _).getD i 0=_;rw[getD_set _ _ _ _ hk];have:i≠k:=λe=>hi (by simp[e]);rw[if_neg this]
  ·show leI ((dep.set k _).getD i 0) _;rw[getD_set _ _ _ _ hk];by_cases e:i=k
   ·subst e;rw[if_pos rfl];have h1:=hg i;by_cases e2:dep.getD i 0=-1
    ·rw[if_pos e2];exact hgk
    ·rw[if_neg e2];unfold leI at*;omega
   ·rw[if_neg e];exact hg i
  ·show ranks (dep.set k _)+todo.length≥ranks dep+(todo++[k]).length∧todo.length<=(todo++[k]).length;have h1:rk (dep.getD k 0)+1<=rk (if dep.getD k 0=-1 then d else -2):=by
    by_cases e2:dep.getD k 0=-1
    ·rw[if_pos e2];simp only[rk,e2];split<;>(try split)<;>simp_all
    ·rw[if_neg e2];simp only[rk];rw[if_neg e2,if_neg (by omega:¬dep.getD k 0=-2)];simp
   simp only[List.length_append,List.length_singleton];omega
theorem reachAll_spec(d:Int)(hd:d≠-1):∀(l:List Nat) (dep:List Int) (todo:List Nat),(∀k∈l,k<dep.length)->
 (∀i,leI (dep.getD i 0) ((reachAll (dep,todo) l d).1.getD i 0))∧(∀k∈l,leI d ((reachAll (dep,todo) l d).1.getD k 0))∧
 (∀i,i∉(reachAll (dep,todo) l d).2->(reachAll (dep,todo) l d).1.getD i 0=dep.getD i 0)∧(∀i∈todo,i∈(reachAll (dep,todo) l d).2)∧(∀i∈(reachAll (dep,todo) l d).2,i∈todo∨i∈l)∧
 (∀g:List Int,(∀i,leI (dep.getD i 0) (g.getD i 0))->(∀k∈l,leI d (g.getD k 0))->∀i,leI ((reachAll (dep,todo) l d).1.getD i 0) (g.getD i 0))∧
 ranks (reachAll (dep,todo) l d).1+todo.length≥ranks dep+(reachAll (dep,todo) l d).2.length∧todo.length<=(reachAll (dep,todo) l d).2.length:=by
 intro l;induction l with
 |nil=>intro dep todo _;exact⟨λi=>leI.refl _,(by intro k hk;cases hk),λ_ _=>rfl,λ_ h=>h,λ_ h=>Or.inl h,λg hg _=>hg,Nat.le_refl _,Nat.le_refl _⟩
 |cons k r ih=>
  intro dep todo hl;have e:reachAll (dep,todo) (k::r) d=reachAll ((reachL dep todo k d).1,(reachL dep todo k d).2) r d:=rfl;rw[e];obtain⟨a1,a2,a3,a4,a5,a6,a7⟩:=reachL_spec dep todo k d (hl k (by simp)) hd;obtain⟨b1,b2,b3,b4,b5,b6,b7⟩:=ih (reachL dep todo k d).1 (reachL dep todo k d).2 (λj hj=>by rw[reachL_len];exact hl j (by simp[hj]));refine⟨λi=>(a1 i).trans (b1 i),λj hj=>?_,λi hi=>?_,λi hi=>b4 i (a4 i hi),λi hi=>?_,λg hg hgk=>b6 g (a6 g hg (hgk k (by simp))) (λj hj=>hgk j (by simp[hj])),by omega⟩
  ·rcases List.mem_cons.1 hj with rfl|hj
   ·exact a2.trans (b1 _)
   ·exact b2 j hj
  ·rw[b3 i hi,a3 i (λh=>hi (b4 i h))]
  ·rcases b5 i hi with h|h
   ·rcases a5 i h with h|h
    ·exact Or.inl h
    ·exact Or.inr (by simp[h])
   ·exact Or.inr (by simp[h])
structure Inv (code:List LIns) (d0:Int) (dep:List Int) (todo:List Nat):Prop where
 len:dep.length=code.length
 small:∀i∈todo,i<code.length
 start:leI d0 (dep.getD 0 0)
 below:∀g,PostFix code d0 g->∀i,leI (dep.getD i 0) (g.getD i 0)
 done:∀k (hk:k<code.length),k∉todo->∀s∈succs code[k] k,leI (outI code[k] (dep.getD k 0)) (dep.getD s 0)
 rank:todo.length<=ranks dep
 hot:∀i∈todo,dep.getD i 0≠-1
theorem Inv.least{code:List LIns}{d0:Int}{dep:List Int}(h:Inv code d0 dep []):Least code d0 dep:=
 ⟨⟨h.len,h.start,λk hk=>h.done k hk (by simp)⟩,λg hg i _=>h.below g hg i⟩
theorem Inv.next{code:List LIns}{d0:Int}{dep:List Int}{todo:List Nat}{k:Nat}(hk:k<code.length)(h:Inv code d0 dep (todo++[k]))(hs:∀s∈succs code[k] k,s<code.length)(hne:∀d,dep.getD k 0≠-1->outD code[k] (dep.getD k 0)=some d->d≠-1):
 Inv code d0 (leaveL code[k] dep todo k).1 (leaveL code[k] dep todo k).2∧2*(2*code.length-ranks (leaveL code[k] dep todo k).1)+(leaveL code[k] dep todo k).2.length<2*(2*code.length-ranks dep)+(todo++[k]).length:=by
 have hr:dep.getD k 0≠-1:=h.hot k (by simp);unfold leaveL;cases ho:outD code[k] (dep.getD k 0) with
 |none=>
  refine⟨⟨h.len,λi hi=>h.small i (by simp[show i∈todo from hi]),h.start,h.below,λj hj hjt=>?_,by have:=h.rank;simp at this ⊢;omega,λi hi=>h.hot i (by simp[show i∈todo from hi])⟩,by simp⟩;by_cases e:j=k
  ·subst e;intro s _;have:outI code[j] (dep.getD j 0)=-1:=by unfold outI;rw[ho];split<;>rfl
   show leI (outI code[j] (dep.getD j 0)) _;rw[this];exact leI.bot _
  ·exact h.done j hj (by simp;exact⟨hjt,e⟩)
 |some dv=>
  have hdv:=hne dv hr ho;have hout:outI code[k] (dep.getD k 0)=dv:=by simp only[outI,ho];rw[if_neg hr];rfl
  obtain⟨a1,a2,a3,a4,a5,a6,a7⟩:=reachAll_spec dv hdv (succs code[k] k) dep todo (λs hs'=>by rw[h.len];exact hs s hs');have hl:(reachAll (dep,todo) (succs code[k] k) dv).1.length=dep.length:=reachAll_len (succs code[k] k) dv (dep,todo);refine⟨⟨by simp only[hl];exact h.len,λi hi=>?_,h.start.trans (a1 0),λg hg=>a6 g (h.below g hg) (λs hs'=>?_),λj hj hjt s hs'=>?_,?_,λi hi=>?_⟩,?_⟩
  ·rcases a5 i hi with h1|h1
   ·exact h.small i (by simp[h1])
   ·exact hs i h1
  ·have:=hg.step k hk s hs';exact(by rw[<-hout];exact outI_mono _ (h.below g hg k):leI dv (outI code[k] (g.getD k 0))).trans this
  ·show leI (outI code[j] ((reachAll (dep,todo) (succs code[k] k) dv).1.getD j 0)) _;rw[a3 j hjt];by_cases e:j=k
   ·subst e;rw[hout];exact a2 s hs'
   ·exact(h.done j hj (by simp;exact⟨λhjt'=>hjt (a4 j hjt'),e⟩) s hs').trans (a1 s)
  ·show(reachAll (dep,todo) (succs code[k] k) dv).2.length<=ranks (reachAll (dep,todo) (succs code[k] k) dv).1;have:=h.rank;simp at this;omega
  ·show(reachAll (dep,todo) (succs code[k] k) dv).1.getD i 0≠-1;rcases a5 i hi with h1|h1
   ·have h2:=h.hot i (by simp[h1]);have h3:=a1 i;unfold leI at h3;omega
   ·have h3:=a2 i h1;unfold leI at h3;omega
  ·have h1:=ranks_le (reachAll (dep,todo) (succs code[k] k) dv).1;rw[hl]at h1;have h2:dep.length=code.length:=h.len;simp only[List.length_append,List.length_singleton];show 2*(2*code.length-ranks (reachAll (dep,todo) (succs code[k] k) dv).1)+(reachAll (dep,todo) (succs code[k] k) dv).2.length<_;have h3:=ranks_le dep;omega
theorem Inv.first{code:List LIns}{d0:Int}{dep:List Int}(hd:0<=d0)(hl:dep.length=code.length)(hp:0<code.length)(ha:∀i,i<dep.length->dep.getD i 0=-1):Inv code d0 (reachL dep [] 0 d0).1 (reachL dep [] 0 d0).2:=by
 have h0:dep.getD 0 0=-1:=ha 0 (by omega);have e:reachL dep [] 0 d0=(dep.set 0 d0,[0]):=by unfold reachL;rw[h0,if_neg (by omega),if_pos rfl];rfl
 have hout:∀i,i≠0->i<code.length->(dep.set 0 d0).getD i 0=-1:=λi hi hl'=>by rw[getD_set _ _ _ _ (by omega),if_neg hi];exact ha i (by omega)
 rw[e];refine⟨by simp[hl],by simp;omega,?_,λg hg i=>?_,λk hk hkt s hs=>?_,?_,?_⟩
 ·show leI d0 ((dep.set 0 d0).getD 0 0);rw[getD_set _ _ _ _ (by omega),if_pos rfl];exact leI.refl _
 ·show leI ((dep.set 0 d0).getD i 0) _;by_cases h:i=0
  ·subst h;rw[getD_set _ _ _ _ (by omega),if_pos rfl];exact hg.start
  ·by_cases h2:i<code.length
   ·rw[hout i h h2];exact leI.bot _
   ·have e1:(dep.set 0 d0).getD i 0=0:=by simp[List.getD,show dep.length<=i by omega]
    have e2:g.getD i 0=0:=by have:=hg.len;simp[List.getD,show g.length<=i by omega]
    rw[e1,e2];exact leI.refl _
 ·have hk0:k≠0:=by simpa using hkt
  show leI (outI code[k] ((dep.set 0 d0).getD k 0)) _;rw[hout k hk0 hk];have:outI code[k] (-1)=-1:=by simp[outI]
  rw[this];exact leI.bot _
 ·show 1<=ranks (dep.set 0 d0);have:=ranks_set dep 0 d0 (by omega);rw[h0]at this;have h3:rk (-1)=0:=rfl;have h4:rk d0=1:=by unfold rk;rw[if_neg (by omega),if_neg (by omega)]
  omega
 ·intro i hi;have:i=0:=by simpa using hi
  subst this;show(dep.set 0 d0).getD 0 0≠-1;rw[getD_set _ _ _ _ (by omega),if_pos rfl];omega
def needR(m:Nat)(a:Int):Int:=
 if m=0∨m=1 then 0 else if m=2 then a+1 else if m=4 then a+1 else if m=5 then a+2 else if m=6 then a else if m=7 then 0 else if m=8∨m=17∨m=19 then 1 else if m=15 then a % 256 else if m=16 then 1 else if m=18∨m=20 then 0 else 2
def moreR(m:Nat)(a:Int):Int:=
 if m=0∨m=1 then 1 else if m=2 then 1 else if m=4 then -a else if m=5 then -1 else if m=6 then -a else if m=7 then a else if m=8∨m=17∨m=19 then 0 else if m=15 then 1-a % 256 else if m=16 then a-1 else if m=18∨m=20 then 0 else -1
theorem all21(m:Nat)(h:m<21):m=0∨m=1∨m=2∨m=3∨m=4∨m=5∨m=6∨m=7∨m=8∨m=9∨m=10∨m=11∨m=12∨m=13∨m=14∨m=15∨m=16∨m=17∨m=18∨m=19∨m=20:=by omega
theorem effect_any(m:Nat)(hm:m<21)(a:Int)(ap:Option Addr)(an ac:Nat)(w:World)(ha:m≠0->0<=a∧a<=65535):
 Calls Tryz.prog 199 #[.agg #[.int .i64 m,.int .i64 a,.slice ap an ac]] w λe w'=>e=.returned (.tuple #[.int .i64 (needR m a),.int .i64 (moreR m a)])∧Below w.heap.size w w':=by
 by_cases h0:m=0
 ·subst h0;clear ha hm;go_enter Tryz.func199,Tryz.ntmps199;go_wp2;try(go_quiet (fail))
  try go_wp2
  go_ret2
  refine⟨?_,?_⟩
  ·simp[needR,moreR]
  ·first|exact(Below.refl _ _).alloc (Nat.le_refl _) _|exact below_drewN ((Below.refl _ _).alloc (Nat.le_refl _) _) _
 ·obtain⟨a1,a2⟩:=ha h0;clear ha;rcases all21 m hm with rfl|rfl|rfl|rfl|rfl|rfl|rfl|rfl|rfl|rfl|rfl|rfl|rfl|rfl|rfl|rfl|rfl|rfl|rfl|rfl|rfl
  ·exact absurd rfl h0
  all_goals
   clear hm h0;go_enter Tryz.func199,Tryz.ntmps199;go_wp2;try(go_quiet (fail))
   try go_wp2
   go_ret2
   refine⟨?_,?_⟩
   ·simp[needR,moreR]
   ·first|exact(Below.refl _ _).alloc (Nat.le_refl _) _|exact below_drewN ((Below.refl _ _).alloc (Nat.le_refl _) _) _
theorem refBounds_any(m:Nat)(hm:m<21)(w:World):
 Calls Tryz.prog 139 #[.int .i64 m] w λe w'=>e=.returned (.tuple #[.int .i64 (if m=7 then 1 else if rowN m 0=2 then 0 else 1),.int .i64 (if rowN m 0=2 then rowN m 2 else 0)])∧w'=w:=by
 rcases all21 m hm with rfl|rfl|rfl|rfl|rfl|rfl|rfl|rfl|rfl|rfl|rfl|rfl|rfl|rfl|rfl|rfl|rfl|rfl|rfl|rfl|rfl;all_goals
  clear hm;go_enter Tryz.func139,Tryz.ntmps139;go_wp2;go_ret2
  exact⟨rfl,rfl⟩
def wrongR(m:Nat)(a d:Int):Bool:=decide (d<needR m a)||((m==19) && (d !=1))||decide (1000<d+moreR m a)
theorem moreR_le(m:Nat)(a:Int)(hm:m<21)(ha:m≠0->0<=a∧a<=65535):-65536<=moreR m a∧moreR m a<=65536:=by
 by_cases h0:m=0
 ·subst h0;simp[moreR]
 ·obtain⟨a1,a2⟩:=ha h0;unfold moreR;rcases all21 m hm with rfl|rfl|rfl|rfl|rfl|rfl|rfl|rfl|rfl|rfl|rfl|rfl|rfl|rfl|rfl|rfl|rfl|rfl|rfl|rfl|rfl<;>simp<;>omega
theorem wrong_any(m:Nat)(hm:m<21)(a d:Int)(ap:Option Addr)(an ac:Nat)(w:World)(ha:m≠0->0<=a∧a<=65535)(hd:0<=d∧d<=100000):
 Calls Tryz.prog 142 #[.agg #[.int .i64 m,.int .i64 a,.slice ap an ac],.int .i64 d] w λe w'=>e=.returned (.bool (wrongR m a d))∧Below w.heap.size w w':=by
 have hml:=moreR_le m a hm ha;obtain⟨l1,l2⟩:=hml;obtain⟨d1,d2⟩:=hd;have HE:Hid (∀w,Calls Tryz.prog 199 #[.agg #[.int .i64 m,.int .i64 a,.slice ap an ac]] w λe w'=>e=.returned (.tuple #[.int .i64 (needR m a),.int .i64 (moreR m a)])∧Below w.heap.size w w'):=λw=>effect_any m hm a ap an ac w ha;have HW:Hid (wrongR m a d=(decide (d<needR m a)||((m==19) && (d !=1))||decide (1000<d+moreR m a))):=rfl;clear ha;generalize needR m a=nd at*;generalize moreR m a=mr at*;have e19:((m:Int)==19)=(m==19):=by rw[Bool.eq_iff_iff,beq_iff_eq,beq_iff_eq];omega
 cases h19:(m==19)
 ·rw[h19]at e19 HW;clear h19;go_enter Tryz.func142,Tryz.ntmps142;go_wp2_with (first|(go_at_call 199;refine(HE.out _).mono ?_;rintro e w1 ⟨rfl,hb1⟩;obtain⟨z0,z1⟩:=bcell hb1))
  all_goals
   go_ret;refine⟨ret_bool' ?_,((Below.refl _ _).alloc (Nat.le_refl _) _).trans (hb1.mono (by simp))⟩;rw[HW.out];simp_all;try omega
 ·rw[h19]at e19 HW;clear h19;go_enter Tryz.func142,Tryz.ntmps142;go_wp2_with (first|(go_at_call 199;refine(HE.out _).mono ?_;rintro e w1 ⟨rfl,hb1⟩;obtain⟨z0,z1⟩:=bcell hb1))
  all_goals
   go_ret;refine⟨ret_bool' ?_,((Below.refl _ _).alloc (Nat.le_refl _) _).trans (hb1.mono (by simp))⟩;rw[HW.out];simp_all;try omega
def cmpB(a b:ByteArray):Int:=Lib.compareBytes a.data.toList b.data.toList
def gtB(a b:ByteArray):Bool:=!(Op.bytesLess a.toList b.toList||a.toList==b.toList)
theorem cmp_lt:∀x y:List UInt8,Lib.compareBytes x y<0↔Op.bytesLess x y=true
 |[],[]=>by simp[Lib.compareBytes,Op.bytesLess]
 |[],_::_=>by simp[Lib.compareBytes,Op.bytesLess]
 |_::_,[]=>by simp[Lib.compareBytes,Op.bytesLess]
 |a::x,b::y=>by
  have ih:=cmp_lt x y;simp only[Lib.compareBytes,Op.bytesLess];by_cases h1:a<b
  ·simp[h1]
  ·by_cases h2:b<a
   ·have h3:a≠b:=by rintro rfl;exact h1 h2
    simp[h1,h2,h3]
   ·have h3:a=b:=UInt8.le_antisymm (UInt8.not_lt.1 h2) (UInt8.not_lt.1 h1);subst h3;simp[h1,ih]
theorem cmp_eq0:∀x y:List UInt8,Lib.compareBytes x y=0↔x=y
 |[],[]=>by simp[Lib.compareBytes]
 |[],_::_=>by simp[Lib.compareBytes]
 |_::_,[]=>by simp[Lib.compareBytes]
 |a::x,b::y=>by
  have ih:=cmp_eq0 x y;simp only[Lib.compareBytes];by_cases h1:a<b
  ·have h3:a≠b:=by rintro rfl;exact UInt8.lt_irrefl _ h1
   simp[h1,h3]
  ·by_cases h2:b<a
   ·have h3:a≠b:=by rintro rfl;exact h1 h2
    simp[h1,h2,h3]
   ·have h3:a=b:=UInt8.le_antisymm (UInt8.not_lt.1 h2) (UInt8.not_lt.1 h1);subst h3;simp[h1,ih]
theorem cmp_swap:∀x y:List UInt8,Lib.compareBytes x y=-Lib.compareBytes y x
 |[],[]=>by simp[Lib.compareBytes]
 |[],_::_=>by simp[Lib.compareBytes]
 |_::_,[]=>by simp[Lib.compareBytes]
 |a::x,b::y=>by
  have ih:=cmp_swap x y;simp only[Lib.compareBytes];by_cases h1:a<b
  ·have h2:¬b<a:=λh=>UInt8.lt_irrefl _ (UInt8.lt_trans h h1);simp[h1,h2]
  ·by_cases h2:b<a
   ·simp[h1,h2]
   ·simp[h1,h2,ih]
theorem less_trans:∀x y z:List UInt8,Op.bytesLess x y=true->Op.bytesLess y z=true->Op.bytesLess x z=true
 |_,[],z=>by simp[Op.bytesLess]
 |[],b::y,[]=>by simp[Op.bytesLess]
 |[],b::y,c::z=>by simp[Op.bytesLess]
 |a::x,b::y,[]=>by simp[Op.bytesLess]
 |a::x,b::y,c::z=>by
  have ih:=less_trans x y z;simp only[Op.bytesLess,Bool.or_eq_true,Bool.and_eq_true,decide_eq_true_eq,beq_iff_eq];rintro(h1|⟨rfl,h1⟩) (h2|⟨rfl,h2⟩)
  ·exact Or.inl (UInt8.lt_trans h1 h2)
  ·exact Or.inl h1
  ·exact Or.inl h2
  ·exact Or.inr ⟨rfl,ih h1 h2⟩
theorem gtB_iff(a b:ByteArray):gtB a b=true↔cmpB b a<0:=by
 unfold gtB cmpB;rw[cmp_swap,ByteArray.toList_eq,ByteArray.toList_eq];have h1:=cmp_lt a.data.toList b.data.toList;have h2:=cmp_eq0 a.data.toList b.data.toList;simp only[Bool.not_eq_true',Bool.or_eq_false_iff,beq_eq_false_iff_ne];constructor
 ·rintro⟨h3,h4⟩;have:¬Lib.compareBytes a.data.toList b.data.toList<0:=by rw[h1,h3];simp
  have:¬Lib.compareBytes a.data.toList b.data.toList=0:=by rw[h2];exact h4
  omega
 ·intro h;exact⟨by rw[Bool.eq_false_iff];intro h3;have:=h1.2 h3;omega,λh3=>by have:=h2.2 h3;omega⟩
theorem cmpB_trans{a b c:ByteArray}(h1:cmpB a b<0)(h2:cmpB b c<0):cmpB a c<0:=by
 unfold cmpB at*;rw[cmp_lt]at*;exact less_trans _ _ _ h1 h2
theorem cmpB_eq0(a b:ByteArray):cmpB a b=0↔a=b:=by
 unfold cmpB;rw[cmp_eq0];constructor
 ·intro h;obtain⟨⟨x⟩⟩:=a;obtain⟨⟨y⟩⟩:=b;simp at h;rw[h]
 ·rintro rfl;rfl
theorem le_eq(a b:ByteArray):(Op.bytesLess a.toList b.toList||a.toList==b.toList)=!gtB a b:=by simp[gtB]
def Rising(l:List LImp):Prop:=∀i j (hi:i<l.length) (hj:j<l.length),i<j->cmpB l[i].name l[j].name<0
def hasN(l:List LImp)(n:ByteArray):Bool:=l.any λx=>decide (cmpB x.name n=0)
theorem hasN_true(l:List LImp)(n:ByteArray)(k:Nat)(hk:k<l.length)(h:cmpB l[k].name n=0):hasN l n=true:=by
 simp only[hasN,List.any_eq_true];exact⟨_,List.getElem_mem hk,by simpa using h⟩
theorem hasN_false(l:List LImp)(n:ByteArray)(h:∀k (hk:k<l.length),cmpB l[k].name n≠0):hasN l n=false:=by
 simp only[hasN,List.any_eq_false];intro x hx;obtain⟨i,hi,rfl⟩:=List.mem_iff_getElem.1 hx;simpa using h i hi
def Sides(l:List LImp)(n:ByteArray)(i j:Nat):Prop:=(∀a (h:a<l.length),a<i->cmpB l[a].name n<0)∧∀a (h:a<l.length),j<=a->¬cmpB l[a].name n<0
theorem Sides.left{l:List LImp}{n:ByteArray}{i j h:Nat}(hr:Rising l)(hh:h<l.length)(hs:Sides l n i j)(hc:cmpB l[h].name n<0):Sides l n (h+1) j:=by
 refine⟨λa ha hah=>?_,hs.2⟩;by_cases e:a=h
 ·subst e;exact hc
 ·exact cmpB_trans (hr a h ha hh (by omega)) hc
theorem Sides.right{l:List LImp}{n:ByteArray}{i j h:Nat}(hr:Rising l)(hh:h<l.length)(hs:Sides l n i j)(hc:¬cmpB l[h].name n<0):Sides l n i h:=by
 refine⟨hs.1,λa ha hah hlt=>?_⟩;by_cases e:h=a
 ·subst e;exact hc hlt
 ·exact hc (cmpB_trans (hr h a hh ha (by omega)) hlt)
theorem Sides.found{l:List LImp}{n:ByteArray}{i:Nat}(hr:Rising l)(hi:i<l.length)(hs:Sides l n i i):hasN l n=(cmpB l[i].name n==0):=by
 by_cases h:cmpB l[i].name n=0
 ·rw[hasN_true l n i hi h];simp[h]
 ·rw[hasN_false l n ?_]
  ·simp[h]
  ·intro k hk hz;have h1:=hs.2 i hi (Nat.le_refl _);by_cases hki:k<i
   ·have:=hs.1 k hk hki;omega
   ·by_cases e:k=i
    ·subst e;exact h hz
    ·have h2:=hr i k hi hk (by omega);rw[(cmpB_eq0 _ _).1 hz]at h2;omega
theorem Sides.none{l:List LImp}{n:ByteArray}{i:Nat}(hi:¬i<l.length)(hs:Sides l n i i):hasN l n=false:=
 hasN_false l n λk hk=>by have:=hs.1 k hk (by omega);omega
theorem cmp_run(a b:ByteArray)(w:World):(callFunc 318 #[.string a,.string b]).run Tryz.prog w=.ok (.value (.int .i64 (cmpB a b))) w:=by
 have h:=@run_callFunc_extern Tryz.prog 318 _ Extern.BytealgCompare.compare Tryz.func318 (by kernel_rfl) (by kernel_rfl) (by kernel_rfl) (by kernel_rfl);rw[h,Lib.run_compareString];rfl
theorem Compare_any(a b:ByteArray)(w:World):Calls Tryz.prog 213 #[.string a,.string b] w λe w'=>e=.returned (.int .i64 (cmpB a b))∧w'=w:=by
 have h:=cmp_run;go_enter Tryz.func213,Tryz.ntmps213;go_wp2;go_ret;exact⟨rfl,rfl⟩
theorem closure_any(a b:ByteArray)(n:Int)(w:World):Calls Tryz.prog 298 #[.agg #[.string a,.int .i64 n],.string b] w λe w'=>e=.returned (.int .i64 (cmpB a b))∧Below w.heap.size w w':=by
 go_enter Tryz.func298,Tryz.ntmps298;go_wp2_with (first|(go_at_call 213;refine(Compare_any _ _ _).mono ?_;rintro e w' ⟨rfl,rfl⟩))
 go_ret;exact⟨rfl,(Below.refl _ _).alloc (Nat.le_refl _) _⟩
theorem int_eq{k:IntKind}{a b:Int}(h:a=b):Value.int k a=.int k b:=by rw[h]
theorem search_any(l:List LImp)(v:Value)(n:ByteArray)(w:World)(hI:ImpsAt w v l)(hr:Rising l):
 Calls Tryz.prog 297 #[v,.string n,.func (.func 298) #[] #[]] w λe w'=>(∃k:Int,e=.returned (.tuple #[.int .i64 k,.bool (hasN l n)]))∧Below w.heap.size w w':=by
 obtain⟨p,cap,rfl,hs1,hcell⟩:=hI.open;have HC:Hid (∀w',Below w.heap.size w w'->ImpsIn w' p l):=hcell;have HR:Hid (Rising l):=hr;clear hcell hI hr;go_enter Tryz.func297,Tryz.ntmps297;go_wp2;go_loopw [9,10] (λs t wr=>∃i j:Nat,i<=j∧j<=l.length∧s=.int .i64 i∧t=.int .i64 j∧Hid (Sides l n i j)∧Below w.heap.size w wr) (λs t _=>(intOf t).toNat-(intOf s).toNat)
 case atStart=>exact⟨0,l.length,Nat.zero_le _,Nat.le_refl _,rfl,rfl,⟨λ_ _ h=>absurd h (by omega),λa h1 h2=>absurd h1 (by omega)⟩,Below.refl _ _⟩
 case round=>
  obtain⟨i,j,hij,hjl,rfl,rfl,hs,hb⟩:=hrel;by_cases hlt:i<j
  ·obtain⟨b,o,rfl,c0,c1,_⟩:=HC.out _ hb ((i+j) / 2) (by omega);have e2:(((i:Int)+(j:Int)) / 2).toNat=(i+j) / 2:=by omega
   have HH:(i+j) / 2<l.length:=by omega
   generalize hnm:(l[(i+j) / 2]'HH).name=nm at*;generalize har:(l[(i+j) / 2]'HH).arity=ar at*;have HN:Hid ((l[(i+j) / 2]'HH).name=nm):=hnm;clear hnm har;go_wp2_with (first|(go_at_call 298;refine(closure_any _ _ _ _).mono ?_;rintro e w' ⟨rfl,hb2⟩))
   case roundEnd=>exact⟨⟨(i+j) / 2+1,j,by omega,hjl,int_eq (by omega),rfl,hs.out.left HR.out HH (by rw[HN.out];assumption),hb.trans (hb2.mono hb.size)⟩,by simp[intOf];omega⟩
   case roundEnd=>exact⟨⟨i,(i+j) / 2,by omega,by omega,rfl,int_eq (by omega),hs.out.right HR.out HH (by rw[HN.out];omega),hb.trans (hb2.mono hb.size)⟩,by simp[intOf];omega⟩
  ·obtain rfl:i=j:=by omega
   by_cases hil:i<l.length
   ·obtain⟨b,o,rfl,c0,c1,_⟩:=HC.out _ hb i hil;have HF:Hid (hasN l n=(cmpB l[i].name n==0)):=hs.out.found HR.out hil;go_wp2_with (first|(go_at_call 298;refine(closure_any _ _ _ _).mono ?_;rintro e w' ⟨rfl,hb2⟩))
    go_ret2
    exact⟨⟨_,by rw[HF.out];rfl⟩,hb.trans (hb2.mono hb.size)⟩
   ·have HF:Hid (hasN l n=false):=hs.out.none hil;go_wp2;go_ret2
    exact⟨⟨_,by rw[HF.out];rfl⟩,hb⟩
theorem Imported_any(l:List LImp)(v:Value)(n:ByteArray)(w:World)(hI:ImpsAt w v l)(hr:Rising l):
 Calls Tryz.prog 240 #[v,.string n] w λe w'=>e=.returned (.bool (hasN l n))∧Below w.heap.size w w':=by
 have HI:Hid (ImpsAt w v l):=hI;have HR:Hid (Rising l):=hr;clear hI hr;go_enter Tryz.func240,Tryz.ntmps240;go_wp2_with (first|(go_at_call 297;refine(search_any l _ _ _ HI.out HR.out).mono ?_;rintro e w' ⟨⟨k,rfl⟩,hb2⟩))
 go_ret;exact⟨rfl,hb2⟩
def nmC(c:Int):Bool:=isLet c||isDig c||c==35
def nmAll(l:List UInt8):Bool:=l.all λc=>nmC c.toNat
def nmB(s:ByteArray):Bool:=decide (0<s.size) && decide (s.size<=16) && isLet (s.data.toList.headD 0).toNat && nmAll s.data.toList
theorem take_snoc(s:ByteArray)(k:Nat)(h:k<s.size):s.data.toList.take (k+1)=s.data.toList.take k++[s[k]]:=by
 rw[List.take_succ_eq_append_getElem (by simpa using h)];rfl
theorem nmAll_snoc(l:List UInt8)(c:UInt8):nmAll (l++[c])=(nmAll l && nmC c.toNat):=by
 simp[nmAll]
theorem nmAll_take(s:ByteArray)(k:Nat)(h:k<s.size)(hf:nmC s[k].toNat=false):nmAll s.data.toList=false:=by
 have hm:s[k]∈s.data.toList:=by
  have:s[k]=s.data.toList[k]'(by simpa using h):=rfl;rw[this];exact List.getElem_mem _
 simp only[nmAll,List.all_eq_false];exact⟨_,hm,by simp[hf]⟩
theorem ret_bool{a b:Bool}(h:a=b):Ending.returned (.bool a)=.returned (.bool b):=by rw[h]
theorem nmB_zero(s:ByteArray)(h:s.size=0):nmB s=false:=by simp[nmB,h]
theorem nmB_long(s:ByteArray)(h:16<s.size):nmB s=false:=by
 have:¬s.size<=16:=by omega
 simp[nmB,this]
theorem head_eq(s:ByteArray)(h:0<s.size):s.data.toList.headD 0=s[0]:=by
 obtain⟨⟨l⟩⟩:=s;cases l with
 |nil=>simp[ByteArray.size]at h
 |cons c r=>rfl
theorem nmB_mid(s:ByteArray)(h:0<s.size)(h16:s.size<=16):nmB s=(isLet s[0].toNat && nmAll s.data.toList):=by
 rw[<-head_eq s h];simp[nmB,h,h16]
theorem IsName_any(s:ByteArray)(w:World)(hs:s.size<=maxLen):
 Calls Tryz.prog 175 #[.string s] w λe w'=>e=.returned (.bool (nmB s))∧w'=w:=by
 unfold maxLen at hs;by_cases h0:s.size=0
 ·go_enter Tryz.func175,Tryz.ntmps175;go_wp2;go_ret;exact⟨ret_bool (nmB_zero s h0).symm,rfl⟩
 ·by_cases h16:16<s.size
  ·go_enter Tryz.func175,Tryz.ntmps175;go_wp2;go_ret;exact⟨ret_bool (nmB_long s h16).symm,rfl⟩
  ·have hb0:((s.size:Int)==0)=false:=by rw[beq_eq_false_iff_ne];omega
   have hmid:=nmB_mid s (by omega) (by omega);have HM:Hid (nmB s=(isLet s[0].toNat && nmAll s.data.toList)):=hmid;clear hmid;by_cases hl:isLet s[0].toNat=true
   ·go_enter Tryz.func175,Tryz.ntmps175;go_wp2_with (first|(go_at_call 237;refine(isLetter_any _ _).mono ?_;rintro e w' ⟨rfl,rfl⟩))
    go_loop [20] (λi=>∃k:Nat,k<=s.size∧i=.int .i64 k∧Hid (nmAll (s.data.toList.take k)=true)) (λi=>s.size-(intOf i).toNat)
    case atStart=>exact⟨0,Nat.zero_le _,rfl,rfl⟩
    case round=>
     obtain⟨k,hk,rfl,ha⟩:=hrel;by_cases hlt:k<s.size
     ·have HS:Hid (nmAll (s.data.toList.take (k+1))=(nmAll (s.data.toList.take k) && nmC s[k].toNat)):=by
       rw[take_snoc s k hlt];exact nmAll_snoc _ _
      have HF:Hid (nmC s[k].toNat=false->nmAll s.data.toList=false):=nmAll_take s k hlt;go_wp2_with (first|(go_at_call 237;refine(isLetter_any _ _).mono ?_;rintro e w' ⟨rfl,rfl⟩)|(go_at_call 238;refine(isDigit_any _ _).mono ?_;rintro e w' ⟨rfl,rfl⟩))
      case roundEnd=>exact⟨⟨k+1,by omega,by go_num,by show nmAll _=true;rw[HS.out,ha.out];simp_all[nmC]⟩,by simp[intOf];omega⟩
      case roundEnd=>exact⟨⟨k+1,by omega,by go_num,by show nmAll _=true;rw[HS.out,ha.out];simp_all[nmC]⟩,by simp[intOf];omega⟩
      case roundEnd=>exact⟨⟨k+1,by omega,by go_num,by show nmAll _=true;rw[HS.out,ha.out];simp_all[nmC]⟩,by simp[intOf];omega⟩
      go_ret;exact⟨ret_bool (by rw[HM.out,HF.out (by simp_all[nmC])];simp),rfl⟩
     ·go_wp2;go_ret;refine⟨ret_bool ?_,rfl⟩;rw[HM.out,hl];have:=ha.out;rw[List.take_of_length_le (by simp;omega)]at this;simp[this]
   ·have hl':isLet s[0].toNat=false:=by simpa using hl
    go_enter Tryz.func175,Tryz.ntmps175;go_wp2_with (first|(go_at_call 237;refine(isLetter_any _ _).mono ?_;rintro e w' ⟨rfl,rfl⟩))
    go_ret;exact⟨ret_bool (by rw[HM.out,hl'];rfl),rfl⟩
theorem ref_stop(s:ByteArray)(k:Nat)(h:k<s.size)(hb:isLet s[k].toNat=false)(h2:(isDig s[k].toNat||((s[k].toNat:Int)==35))=false∨k=0):nmB s=false:=by
 by_cases h0:0<s.size
 ·by_cases h16:s.size<=16
  ·rw[nmB_mid s h0 h16];rcases h2 with h2|rfl
   ·rw[nmAll_take s k h (by simp only[nmC,hb,Bool.false_or];exact h2)];simp
   ·simp[hb]
  ·exact nmB_long s (by omega)
 ·exact nmB_zero s (by omega)
theorem ref_next(s:ByteArray)(k:Nat)(h:k<s.size)(ha:nmAll (s.data.toList.take k)=true∧(0<k->isLet (s.data.toList.headD 0).toNat=true))(hc:nmC s[k].toNat=true)(hz:k=0->isLet s[k].toNat=true):
 nmAll (s.data.toList.take (k+1))=true∧(0<k+1->isLet (s.data.toList.headD 0).toNat=true):=by
 refine⟨by rw[take_snoc s k h,nmAll_snoc,ha.1,hc];rfl,λ_=>?_⟩;by_cases hk:k=0
 ·subst hk;rw[head_eq s h];exact hz rfl
 ·exact ha.2 (by omega)
theorem ref_end(s:ByteArray)(k:Nat)(h:¬k<s.size)(h0:0<s.size)(hk:k<=s.size)(ha:nmAll (s.data.toList.take k)=true∧(0<k->isLet (s.data.toList.headD 0).toNat=true)):nmB s=decide ((s.size:Int)<=16):=by
 have h1:=ha.1;have h2:=ha.2 (by omega);rw[List.take_of_length_le (by simp;omega)]at h1;have e:decide ((s.size:Int)<=16)=decide (s.size<=16):=by apply decide_eq_decide.2;omega
 rw[e,nmB,h1,h2];simp[h0]
theorem isName_any(s:ByteArray)(w:World)(hs:s.size<=maxLen):
 Calls Tryz.prog 138 #[.string s] w λe w'=>e=.returned (.bool (nmB s))∧w'=w:=by
 unfold maxLen at hs;go_enter Tryz.func138,Tryz.ntmps138;go_wp2;go_loop [3] (λi=>∃k:Nat,k<=s.size∧i=.int .i64 k∧Hid (nmAll (s.data.toList.take k)=true∧(0<k->isLet (s.data.toList.headD 0).toNat=true))) (λi=>s.size-(intOf i).toNat)
 case atStart=>exact⟨0,Nat.zero_le _,rfl,rfl,λh=>absurd h (by decide)⟩
 case round=>
  obtain⟨k,hk,rfl,ha⟩:=hrel;by_cases hlt:k<s.size
  ·go_wp2;any_goals
    go_ret;refine⟨ret_bool (ref_stop s k hlt ?_ ?_).symm,rfl⟩
    ·simp[isLet];omega
    ·simp[isDig]at*;omega
   all_goals
    refine⟨⟨k+1,by omega,by go_num,ref_next s k hlt ha.out ?_ ?_⟩,by simp[intOf];omega⟩
    ·simp[nmC,isLet,isDig]at*;omega
    ·simp[isLet]at*;omega
  ·by_cases h0:0<s.size
   ·go_wp2;go_ret;exact⟨ret_bool (ref_end s k hlt h0 hk ha.out).symm,rfl⟩
   ·go_wp2;go_ret;exact⟨ret_bool (nmB_zero s (by omega)).symm,rfl⟩
end Go.Proofs.YtdpodpjdcfjfgaaGreatDoor
