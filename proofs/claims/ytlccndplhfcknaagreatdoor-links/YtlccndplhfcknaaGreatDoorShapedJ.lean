import Derived.Test.YtlccndplhfcknaaGreatDoorRefFitsJ
import Derived.Lib.SmallJoins
import Derived.Deep.Slices
import Derived.SizedLaws
set_option maxRecDepth 100000
set_option maxHeartbeats 4000000
namespace Go.Proofs.YtlccndplhfcknaaGreatDoor
open Go.RowKit Go.Sort
theorem ImpsAt.names{w:World}{v:Value}{l:List LImp}(h:ImpsAt w v l):short l.length∧∀i (hi:i<l.length),l[i].name.size<=maxLen:=by
 obtain⟨p,cap,-,hs,hc⟩:=h;refine⟨hs,λi hi=>?_⟩;obtain⟨_,_,-,-,-,h⟩:=hc i hi;exact h
theorem AltsAt.short{w:World}{v:Value}{l:List LAlt}(h:AltsAt w v l):short l.length:=by
 obtain⟨p,cap,-,hs,-⟩:=h;exact hs
theorem CodeAt.shorts{w:World}{v:Value}{l:List LIns}(h:CodeAt w v l):short l.length∧∀j (hj:j<l.length),short l[j].alts.length:=by
 obtain⟨p,cap,-,hs,hc⟩:=h;refine⟨hs,λi hi=>?_⟩;obtain⟨_,_,_,-,-,-,-,h⟩:=hc i hi;exact h.short
theorem GlobsAt.names{w:World}{v:Value}{l:List LGlob}(h:GlobsAt w v l):short l.length∧∀i (hi:i<l.length),l[i].name.size<=maxLen∧short l[i].code.length∧∀j (hj:j<l[i].code.length),short l[i].code[j].alts.length:=by
 obtain⟨p,cap,-,hs,hc⟩:=h;refine⟨hs,λi hi=>?_⟩;obtain⟨_,_,_,-,-,-,-,-,h,hn⟩:=hc i hi;exact⟨hn,h.shorts⟩
theorem room_obj{w w':World}{O:LObj}{iv gv iv' gv':Value}(hO:ObjAt w (.agg #[.string O.name,iv,gv]) O)(hb:Below w.heap.size w w')(hI:RelI iv iv' w' 0 O.imps)(hG:KeptG gv gv' w' O.globs):ObjAt w' (.agg #[.string O.name,iv',gv']) O:=by
 obtain⟨ia,ga,e,hsz,hIA,hGA⟩:=hO;obtain⟨rfl,rfl⟩:iv=ia∧gv=ga:=by simpa using e
 refine⟨iv',gv',rfl,hsz,?_,?_⟩
 ·rcases hI with⟨n,c,-,rfl⟩|⟨a,n,c,-,h⟩
  ·exact hIA.keep hb
  ·exact h.at hIA.names.1 hIA.names.2
 ·rcases hG with⟨n,c,-,rfl⟩|⟨a,n,c,-,h⟩
  ·exact hGA.keep hb
  ·exact h.at hGA.names.1 hGA.names.2
theorem room_slices{w':World}{O:LObj}{iv' gv':Value}(h:ObjAt w' (.agg #[.string O.name,iv',gv']) O):∃p c q d,iv'=.slice p O.imps.length c∧gv'=.slice q O.globs.length d:=by
 obtain⟨ia,ga,e,-,hIA,hGA⟩:=h;obtain⟨rfl,rfl⟩:iv'=ia∧gv'=ga:=by simpa using e
 obtain⟨p,c,rfl,-⟩:=hIA.open;obtain⟨q,d,rfl,-⟩:=hGA.open;exact⟨_,_,_,_,rfl,rfl⟩
theorem KeptI.keep{iv iv':Value}{w w':World}{imps:List LImp}(h:KeptI iv iv' w 0 imps)(hb:Below w.heap.size w w'):KeptI iv iv' w' 0 imps:=by
 rcases h with h|⟨a,n,c,e,h⟩
 ·exact Or.inl h
 ·exact Or.inr ⟨a,n,c,e,h.keep hb⟩
theorem KeptG.keep{gv gv':Value}{w w':World}{globs:List LGlob}(h:KeptG gv gv' w globs)(hb:Below w.heap.size w w'):KeptG gv gv' w' globs:=by
 rcases h with h|⟨a,n,c,e,h⟩
 ·exact Or.inl h
 ·exact Or.inr ⟨a,n,c,e,h.keep hb⟩
theorem lawNum_any(d:Int)(w:World):Calls Tryz.prog 9 #[.int .i64 d] w λe w'=>e=.returned (.int .i64 d)∧w'=w:=by
 go_enter Tryz.func9,Tryz.ntmps9;go_wp2;go_ret;exact⟨rfl,rfl⟩
structure C3 (w:World) (b:Nat) (x y z:Value):Prop where
 c0:w.cell? ⟨b,0,none⟩=some x
 c1:w.cell? ⟨b,1,none⟩=some y
 c2:w.cell? ⟨b,2,none⟩=some z
 lt:b<w.heap.size
theorem C3.keep{w w':World}{b:Nat}{x y z:Value}(h:C3 w b x y z)(hb:Below w.heap.size w w'):C3 w' b x y z:=⟨cell_keep hb h.c0,cell_keep hb h.c1,cell_keep hb h.c2,Nat.lt_of_lt_of_le h.lt hb.size⟩
theorem C3.new(w:World)(x y z:Value)(t:TypeId):C3 (w.alloc (.cells #[x,y,z] t)) w.heap.size x y z:=⟨alloc_cell w #[x,y,z] t 0 _ rfl,alloc_cell w #[x,y,z] t 1 _ rfl,alloc_cell w #[x,y,z] t 2 _ rfl,by simp⟩
end Go.Proofs.YtlccndplhfcknaaGreatDoor
namespace Go.Proofs.YtlccndplhfcknaaGreatDoor
open Go.RowKit Go.Sort Go.ChangeShapes Go.WideShapes
def Wt{H:Type}(t:TypeId)(d:DataW H):Prop:=∀n∈d.weights Tryz.prog t,n<=reachBytes
theorem all_mem{H:Type}{P:Program}{e:TypeId}:∀{l:List (DataW H)} {d:DataW H},d∈l->∀n∈d.weights P e,n∈DataW.weightsAll P e l
 |x::r,d,hd,n,hn=>by
  simp only[DataW.weightsAll,List.mem_append];rcases List.mem_cons.1 hd with rfl|h
  ·exact Or.inl hn
  ·exact Or.inr (all_mem h n hn)
theorem Wt.slice{H:Type}{t e:TypeId}{es sp:List (DataW H)}(hu:Tryz.prog.underlying t=some (.slice e))(h:Wt t (.slice es sp)):es.length*Tryz.prog.bytesOf e<=reachBytes∧∀d∈es,Wt e d:=by
 refine⟨?_,λd hd n hn=>h n ?_⟩
 ·have:=h ((es.length+sp.length)*Tryz.prog.bytesOf e) (by simp[DataW.weights,hu]);exact Nat.le_trans (Nat.mul_le_mul_right _ (by omega)) this
 ·simp only[DataW.weights,hu,List.mem_cons,List.mem_append];exact Or.inr (Or.inl (all_mem hd n hn))
theorem Wt.part{H:Type}{t:TypeId}{fs:Array Field}{parts:List (DataW H)}(hu:Tryz.prog.underlying t=some (.struct fs))(h:Wt t (.agg parts)){j:Nat}{f:Field}{d:DataW H}(hf:fs[j]?=some f)(hd:parts[j]?=some d):Wt f.type d:=by
 intro n hn;refine h n ?_;simp only[DataW.weights,hu];exact DataW.weights_mem_each (j:=j) (t:=f.type) (by simp[hf]) hd n hn
theorem slice_get{H:Type}{enc:TypeId×Value->H}{w:World}{spare:Nat->Bool}{held:Bool}{t e:TypeId}{k fuel:Nat}{v:Value}{x:DataW H×List MemPlace}(hu:Tryz.prog.underlying t=some (.slice e))(hk:Tryz.prog.cellsOf e=k)(hk0:0<k)(h:DataW.trod enc Tryz.prog w 0 spare held fuel t [v]=some x)(hw:Wt t x.1):
 v=.slice none 0 0∨∃a len cap n,v=.slice (some a) len cap∧len*Tryz.prog.bytesOf e<=reachBytes∧
  ∀i,i<len->∃b o cs y,a=⟨b,o,none⟩∧cs.length=k∧(∀j,j<k->w.cell? ⟨b,o+i*k+j,none⟩=cs[j]?)∧DataW.trod enc Tryz.prog w 0 spare held n e cs=some y∧Wt e y.1:=by
 rcases Go.Deep.open_slice hu h with⟨h0,-⟩|⟨a,len,cap,m,n,D,Pl,h0,-,hl,-,hm,rfl,hx⟩
 ·exact Or.inl (by simpa using h0)
 ·obtain rfl:v=.slice (some a) len cap:=by simpa using h0
  obtain⟨hs,he⟩:=hw.slice hu;refine Or.inr ⟨a,len,cap,n,rfl,by simpa using hs,λi hi=>?_⟩;have him:i<m:=by rw[hm];split<;>omega
  obtain⟨cs,hc,ht⟩:=hx i him;rw[hk]at hc;obtain⟨-,hlen,hcell⟩:=World.cells?_some hc;obtain⟨cs0,hc0,-⟩:=hx 0 (by omega);rw[hk]at hc0;obtain⟨-,hlen0,hcell0⟩:=World.cells?_some hc0;obtain⟨b,o,spot⟩:=a;have h1:=hcell0 0 hk0;rw[List.getElem?_eq_getElem (by omega)]at h1;have hspot:spot=none:=by simpa[Addr.add]using World.cell?_spot h1
  subst hspot;refine⟨b,o,cs,_,rfl,hlen,λj hj=>?_,ht,he _ ?_⟩
  ·have:=hcell j hj;rw[add_off,add_off]at this;exact this
  ·simp only[List.mem_map,List.mem_range];exact⟨i,hi,rfl⟩
theorem one_int{H:Type}{enc:TypeId×Value->H}{w:World}{spare:Nat->Bool}{held:Bool}{t:TypeId}{fuel:Nat}{cs:List Value}{y:DataW H×List MemPlace}(hu:Tryz.prog.underlying t=some (.int .i64))(h:DataW.trod enc Tryz.prog w 0 spare held fuel t cs=some y):∃n:Int,cs=[.int .i64 n]:=by
 obtain⟨n,h1,-⟩:=DataW.trod_int hu h;exact⟨n,h1⟩
theorem one_at{cs:List Value}{i k:Nat}{v:Value}(hk:k=1)(h:(cs.drop i).take k=[v]):cs[i]?=some v:=by
 subst hk;have h1:=congrArg (·[0]?) h;simpa[List.getElem?_take,List.getElem?_drop]using h1
theorem one_cell{cs:List Value}{i k:Nat}(hk:k=1)(hi:i<cs.length):∃v,(cs.drop i).take k=[v]∧cs[i]?=some v:=by
 subst hk;exact⟨cs[i],by rw[List.drop_eq_getElem_cons hi];rfl,List.getElem?_eq_getElem hi⟩
theorem cells_int:Tryz.prog.cellsOf 3=1:=by kernel_rfl
theorem cells_bool:Tryz.prog.cellsOf 4=1:=by kernel_rfl
theorem cells_string:Tryz.prog.cellsOf 9=1:=by kernel_rfl
theorem cells_alts:Tryz.prog.cellsOf 35=1:=by kernel_rfl
theorem cells_code:Tryz.prog.cellsOf 38=1:=by kernel_rfl
theorem cells_alt:Tryz.prog.cellsOf 76=2:=by kernel_rfl
theorem cells_ins:Tryz.prog.cellsOf 37=3:=by kernel_rfl
theorem cells_imp:Tryz.prog.cellsOf 69=2:=by kernel_rfl
theorem cells_glob:Tryz.prog.cellsOf 40=4:=by kernel_rfl
theorem bytes_alt:Tryz.prog.bytesOf 76=16:=by kernel_rfl
theorem bytes_ins:Tryz.prog.bytesOf 37=40:=by kernel_rfl
theorem bytes_imp:Tryz.prog.bytesOf 69=24:=by kernel_rfl
theorem bytes_glob:Tryz.prog.bytesOf 40=56:=by kernel_rfl
theorem alt_of{H:Type}{enc:TypeId×Value->H}{w:World}{spare:Nat->Bool}{held:Bool}{fuel:Nat}{cs:List Value}{y:DataW H×List MemPlace}(h:DataW.trod enc Tryz.prog w 0 spare held fuel 76 cs=some y):∃x:LAlt,cs[0]?=some (.int .i64 x.tag)∧cs[1]?=some (.int .i64 x.to):=by
 obtain⟨y0,y1,n,-,-,h0,h1⟩:=trod_struct2 Tryz.underlying76 h;obtain⟨a,e0⟩:=one_int Tryz.underlying3 h0;obtain⟨b,e1⟩:=one_int Tryz.underlying3 h1;exact⟨⟨a,b⟩,one_at cells_int e0,one_at cells_int e1⟩
theorem alts_of{H:Type}{enc:TypeId×Value->H}{w:World}{spare:Nat->Bool}{held:Bool}{fuel:Nat}{v:Value}{x:DataW H×List MemPlace}(h:DataW.trod enc Tryz.prog w 0 spare held fuel 35 [v]=some x)(hw:Wt 35 x.1):∃l:List LAlt,AltsAt w v l∧l.length*16<=140737488351232:=by
 rcases slice_get Tryz.underlying35 cells_alt (by omega) h hw with rfl|⟨a,len,cap,n,rfl,hs,hx⟩
 ·exact⟨[],⟨none,0,rfl,by simp[short],λi hi=>absurd hi (by simp)⟩,by simp⟩
 ·rw[bytes_alt]at hs;have:Inhabited LAlt:=⟨⟨0,0⟩⟩;obtain⟨f,hf⟩:=Go.Deep.choose_lt (α:=LAlt) (n:=len) (p:=λi x=>∃b o,a=⟨b,o,none⟩∧w.cell? ⟨b,o+i*2,none⟩=some (.int .i64 x.tag)∧w.cell? ⟨b,o+i*2+1,none⟩=some (.int .i64 x.to)) (λi hi=>by
   obtain⟨b,o,cs,y,rfl,-,hc,ht,-⟩:=hx i hi;obtain⟨x,h0,h1⟩:=alt_of ht;exact⟨x,b,o,rfl,(hc 0 (by omega)).trans h0,(hc 1 (by omega)).trans h1⟩)
  have hl:((List.range len).map f).length=len:=by simp
  refine⟨(List.range len).map f,⟨some a,cap,by rw[hl],?_,λi hi=>?_⟩,?_⟩
  ·rw[hl];simp only[short];unfold reachBytes at hs;omega
  ·rw[hl]at hi;obtain⟨b,o,e,h0,h1⟩:=hf i hi;exact⟨b,o,by rw[e],by simpa using h0,by simpa using h1⟩
  ·rw[hl];unfold reachBytes at hs;omega
theorem ins_of{H:Type}{enc:TypeId×Value->H}{w:World}{spare:Nat->Bool}{held:Bool}{fuel:Nat}{cs:List Value}{y:DataW H×List MemPlace}(hl:cs.length=3)(h:DataW.trod enc Tryz.prog w 0 spare held fuel 37 cs=some y)(hw:Wt 37 y.1):
 ∃(x:LIns) (av:Value),cs[0]?=some (.int .i64 x.op)∧cs[1]?=some (.int .i64 x.a)∧cs[2]?=some av∧AltsAt w av x.alts∧x.alts.length*16<=140737488351232:=by
 obtain⟨y0,y1,y2,n,rfl,-,h0,h1,h2⟩:=Go.Deep.trod_struct3 Tryz.underlying37 h;obtain⟨a,e0⟩:=one_int Tryz.underlying3 h0;obtain⟨b,e1⟩:=one_int Tryz.underlying3 h1;obtain⟨v,e2,e3⟩:=one_cell (cs:=cs) (i:=2) cells_alts (by omega);have h2':DataW.trod enc Tryz.prog w 0 spare held n 35 ((cs.drop 2).take (Tryz.prog.cellsOf 35))=some y2:=h2;rw[e2]at h2';obtain⟨l,hA,hA2⟩:=alts_of h2' (hw.part Tryz.underlying37 (j:=2) rfl rfl);exact⟨⟨a,b,l⟩,v,one_at cells_int e0,one_at cells_int e1,e3,hA,hA2⟩
theorem code_of{H:Type}{enc:TypeId×Value->H}{w:World}{spare:Nat->Bool}{held:Bool}{fuel:Nat}{v:Value}{x:DataW H×List MemPlace}(h:DataW.trod enc Tryz.prog w 0 spare held fuel 38 [v]=some x)(hw:Wt 38 x.1):∃l:List LIns,CodeAt w v l∧l.length*40<=140737488351232∧∀c∈l,c.alts.length*16<=140737488351232:=by
 rcases slice_get Tryz.underlying38 cells_ins (by omega) h hw with rfl|⟨a,len,cap,n,rfl,hs,hx⟩
 ·exact⟨[],⟨none,0,rfl,by simp[short],λi hi=>absurd hi (by simp)⟩,by simp,λc hc=>by cases hc⟩
 ·rw[bytes_ins]at hs;have:Inhabited LIns:=⟨⟨0,0,[]⟩⟩;obtain⟨f,hf⟩:=Go.Deep.choose_lt (α:=LIns) (n:=len) (p:=λi x=>∃b o av,a=⟨b,o,none⟩∧w.cell? ⟨b,o+i*3,none⟩=some (.int .i64 x.op)∧w.cell? ⟨b,o+i*3+1,none⟩=some (.int .i64 x.a)∧w.cell? ⟨b,o+i*3+2,none⟩=some av∧AltsAt w av x.alts∧x.alts.length*16<=140737488351232) (λi hi=>by
   obtain⟨b,o,cs,y,rfl,hl,hc,ht,hwt⟩:=hx i hi;obtain⟨x,av,h0,h1,h2,h3⟩:=ins_of hl ht hwt;exact⟨x,b,o,av,rfl,(hc 0 (by omega)).trans h0,(hc 1 (by omega)).trans h1,(hc 2 (by omega)).trans h2,h3⟩)
  have hl:((List.range len).map f).length=len:=by simp
  refine⟨(List.range len).map f,⟨some a,cap,by rw[hl],?_,λi hi=>?_⟩,?_,λc hc=>?_⟩
  ·rw[hl];simp only[short];unfold reachBytes at hs;omega
  ·rw[hl]at hi;obtain⟨b,o,av,e,h0,h1,h2,h3,-⟩:=hf i hi;exact⟨b,o,av,by rw[e],by simpa using h0,by simpa using h1,h2,by simpa using h3⟩
  ·rw[hl];unfold reachBytes at hs;omega
  ·simp only[List.mem_map,List.mem_range]at hc;obtain⟨i,hi,rfl⟩:=hc;obtain⟨-,-,-,-,-,-,-,-,h⟩:=hf i hi;exact h
theorem one_string{H:Type}{enc:TypeId×Value->H}{w:World}{spare:Nat->Bool}{held:Bool}{t:TypeId}{fuel:Nat}{cs:List Value}{y:DataW H×List MemPlace}(hu:Tryz.prog.underlying t=some .string)(h:DataW.trod enc Tryz.prog w 0 spare held fuel t cs=some y):∃s:ByteArray,cs=[.string s]∧s.size<=maxLen:=by
 obtain⟨s,h1,-,h2⟩:=DataW.trod_string hu h;exact⟨s,h1,h2⟩
theorem one_bool{H:Type}{enc:TypeId×Value->H}{w:World}{spare:Nat->Bool}{held:Bool}{t:TypeId}{fuel:Nat}{cs:List Value}{y:DataW H×List MemPlace}(hu:Tryz.prog.underlying t=some .bool)(h:DataW.trod enc Tryz.prog w 0 spare held fuel t cs=some y):∃b:Bool,cs=[.bool b]:=by
 obtain⟨b,h1,-⟩:=DataW.trod_bool hu h;exact⟨b,h1⟩
theorem imp_of{H:Type}{enc:TypeId×Value->H}{w:World}{spare:Nat->Bool}{held:Bool}{fuel:Nat}{cs:List Value}{y:DataW H×List MemPlace}(h:DataW.trod enc Tryz.prog w 0 spare held fuel 69 cs=some y):∃x:LImp,cs[0]?=some (.string x.name)∧cs[1]?=some (.int .i64 x.arity)∧x.name.size<=maxLen:=by
 obtain⟨y0,y1,n,-,-,h0,h1⟩:=trod_struct2 Tryz.underlying69 h;obtain⟨a,e0,hs⟩:=one_string Tryz.underlying9 h0;obtain⟨b,e1⟩:=one_int Tryz.underlying3 h1;exact⟨⟨a,b⟩,one_at cells_string e0,one_at cells_int e1,hs⟩
theorem imps_of{H:Type}{enc:TypeId×Value->H}{w:World}{spare:Nat->Bool}{held:Bool}{fuel:Nat}{v:Value}{x:DataW H×List MemPlace}(h:DataW.trod enc Tryz.prog w 0 spare held fuel 42 [v]=some x)(hw:Wt 42 x.1):∃l:List LImp,ImpsAt w v l∧l.length*24<=140737488351232:=by
 rcases slice_get Tryz.underlying42 cells_imp (by omega) h hw with rfl|⟨a,len,cap,n,rfl,hs,hx⟩
 ·exact⟨[],⟨none,0,rfl,by simp[short],λi hi=>absurd hi (by simp)⟩,by simp⟩
 ·rw[bytes_imp]at hs;have:Inhabited LImp:=⟨⟨⟨#[]⟩,0⟩⟩;obtain⟨f,hf⟩:=Go.Deep.choose_lt (α:=LImp) (n:=len) (p:=λi x=>∃b o,a=⟨b,o,none⟩∧w.cell? ⟨b,o+i*2,none⟩=some (.string x.name)∧w.cell? ⟨b,o+i*2+1,none⟩=some (.int .i64 x.arity)∧x.name.size<=maxLen) (λi hi=>by
   obtain⟨b,o,cs,y,rfl,-,hc,ht,-⟩:=hx i hi;obtain⟨x,h0,h1,h2⟩:=imp_of ht;exact⟨x,b,o,rfl,(hc 0 (by omega)).trans h0,(hc 1 (by omega)).trans h1,h2⟩)
  have hl:((List.range len).map f).length=len:=by simp
  refine⟨(List.range len).map f,⟨some a,cap,by rw[hl],?_,λi hi=>?_⟩,?_⟩
  ·rw[hl];simp only[short];unfold reachBytes at hs;omega
  ·rw[hl]at hi;obtain⟨b,o,e,h0,h1,h2⟩:=hf i hi;exact⟨b,o,by rw[e],by simpa using h0,by simpa using h1,by simpa using h2⟩
  ·rw[hl];unfold reachBytes at hs;omega
theorem glob_of{H:Type}{enc:TypeId×Value->H}{w:World}{spare:Nat->Bool}{held:Bool}{fuel:Nat}{cs:List Value}{y:DataW H×List MemPlace}(hl:cs.length=4)(h:DataW.trod enc Tryz.prog w 0 spare held fuel 40 cs=some y)(hw:Wt 40 y.1):
 ∃(x:LGlob) (cv:Value),cs[0]?=some (.string x.name)∧cs[1]?=some (.int .i64 x.arity)∧cs[2]?=some (.bool x.exp)∧cs[3]?=some cv∧CodeAt w cv x.code∧x.name.size<=maxLen∧x.code.length*40<=140737488351232∧∀c∈x.code,c.alts.length*16<=140737488351232:=by
 obtain⟨y0,y1,y2,y3,n,rfl,-,h0,h1,h2,h3⟩:=Go.Joins.trod_struct4 Tryz.underlying40 h;obtain⟨a,e0,hs⟩:=one_string Tryz.underlying9 h0;obtain⟨b,e1⟩:=one_int Tryz.underlying3 h1;obtain⟨c,e2⟩:=one_bool Tryz.underlying4 h2;obtain⟨v,e3,e4⟩:=one_cell (cs:=cs) (i:=3) cells_code (by omega);have h3':DataW.trod enc Tryz.prog w 0 spare held n 38 ((cs.drop 3).take (Tryz.prog.cellsOf 38))=some y3:=h3;rw[e3]at h3';obtain⟨l,hA,hA2⟩:=code_of h3' (hw.part Tryz.underlying40 (j:=3) rfl rfl);exact⟨⟨a,b,c,l⟩,v,one_at cells_string e0,one_at cells_int e1,one_at cells_bool e2,e4,hA,hs,hA2⟩
theorem globs_of{H:Type}{enc:TypeId×Value->H}{w:World}{spare:Nat->Bool}{held:Bool}{fuel:Nat}{v:Value}{x:DataW H×List MemPlace}(h:DataW.trod enc Tryz.prog w 0 spare held fuel 41 [v]=some x)(hw:Wt 41 x.1):∃l:List LGlob,GlobsAt w v l∧SizedG l:=by
 rcases slice_get Tryz.underlying41 cells_glob (by omega) h hw with rfl|⟨a,len,cap,n,rfl,hs,hx⟩
 ·exact⟨[],⟨none,0,rfl,by simp[short],λi hi=>absurd hi (by simp)⟩,by simp[SizedG]⟩
 ·rw[bytes_glob]at hs;have:Inhabited LGlob:=⟨⟨⟨#[]⟩,0,false,[]⟩⟩;obtain⟨f,hf⟩:=Go.Deep.choose_lt (α:=LGlob) (n:=len) (p:=λi x=>∃b o cv,a=⟨b,o,none⟩∧w.cell? ⟨b,o+i*4,none⟩=some (.string x.name)∧w.cell? ⟨b,o+i*4+1,none⟩=some (.int .i64 x.arity)∧w.cell? ⟨b,o+i*4+2,none⟩=some (.bool x.exp)∧w.cell? ⟨b,o+i*4+3,none⟩=some cv∧CodeAt w cv x.code∧x.name.size<=maxLen∧x.code.length*40<=140737488351232∧∀c∈x.code,c.alts.length*16<=140737488351232) (λi hi=>by
   obtain⟨b,o,cs,y,rfl,hl,hc,ht,hwt⟩:=hx i hi;obtain⟨x,cv,h0,h1,h2,h3,h4⟩:=glob_of hl ht hwt;exact⟨x,b,o,cv,rfl,(hc 0 (by omega)).trans h0,(hc 1 (by omega)).trans h1,(hc 2 (by omega)).trans h2,(hc 3 (by omega)).trans h3,h4⟩)
  have hl:((List.range len).map f).length=len:=by simp
  refine⟨(List.range len).map f,⟨some a,cap,by rw[hl],?_,λi hi=>?_⟩,?_,λc hc=>?_⟩
  ·rw[hl];simp only[short];unfold reachBytes at hs;omega
  ·rw[hl]at hi;obtain⟨b,o,cv,e,h0,h1,h2,h3,h4,h5,-⟩:=hf i hi;exact⟨b,o,cv,by rw[e],by simpa using h0,by simpa using h1,by simpa using h2,h3,by simpa using h4,by simpa using h5⟩
  ·rw[hl];unfold reachBytes at hs;omega
  ·simp only[List.mem_map,List.mem_range]at hc;obtain⟨i,hi,rfl⟩:=hc;obtain⟨-,-,-,-,-,-,-,-,-,-,h⟩:=hf i hi;exact h
end Go.Proofs.YtlccndplhfcknaaGreatDoor
namespace Go.Proofs.YtlccndplhfcknaaGreatDoor
open Go.RowKit
theorem ret_val'{a b:Value}(h:a=b):Ending.returned a=.returned b:=by rw[h]
def codeG(code:List LIns):Bool:=decide (code.length<=65535) && code.all λx=>insG x.op x.a x.alts
theorem all_false{α:Type}(p:α->Bool)(l:List α)(k:Nat)(hk:k<l.length)(h:p l[k]=false):l.all p=false:=by
 rw[List.all_eq_false];exact⟨_,List.getElem_mem hk,by simp[h]⟩
theorem all_true{α:Type}(p:α->Bool)(l:List α)(h:∀k (hk:k<l.length),p l[k]=true):l.all p=true:=by
 rw[List.all_eq_true];intro x hx;obtain⟨i,hi,rfl⟩:=List.mem_iff_getElem.1 hx;exact h i hi
theorem goodCode_any(code:List LIns)(v:Value)(w:World)(hC:CodeAt w v code)(hT:TabAt w):
 Calls Tryz.prog 73 #[v] w λe w'=>e=.returned (.bool (codeG code))∧Below w.heap.size w w':=by
 obtain⟨p,cap,rfl,hs1,hcell⟩:=hC.open;have HC:Hid (∀w',Below w.heap.size w w'->CodeIn w' p code):=hcell;have HT:Hid (TabAt w):=hT;clear hcell hC hT;by_cases hl:code.length<=65535
 ·have HG:Hid (codeG code=code.all λx=>insG x.op x.a x.alts):=by show _=_;simp[codeG,hl]
  go_enter Tryz.func73,Tryz.ntmps73;go_wp2;go_loopw [10] (λi wr=>∃k:Nat,k<=code.length∧i=.int .i64 k∧Hid (∀j (h:j<code.length),j<k->insG code[j].op code[j].a code[j].alts=true)∧Below w.heap.size w wr) (λi _=>code.length-(intOf i).toNat)
  case atStart=>exact⟨0,Nat.zero_le _,rfl,λ_ _ h=>absurd h (by omega),Below.refl _ _⟩
  case round=>
   obtain⟨k,hk,rfl,ha,hb⟩:=hrel;by_cases hlt:k<code.length
   ·obtain⟨b,o,ap,an,ac,rfl,c0,c1,c2,hA⟩:=HC.out _ hb k hlt;have HA:Hid (AltsAt wr (.slice ap an ac) code[k].alts):=hA;have HF:Hid (insG code[k].op code[k].a code[k].alts=false->(code.all λx=>insG x.op x.a x.alts)=false):=by intro h;exact all_false (λx:LIns=>insG x.op x.a x.alts) code k hlt h
    have HN:Hid (insG code[k].op code[k].a code[k].alts=true->∀j (h:j<code.length),j<k+1->insG code[j].op code[j].a code[j].alts=true):=by
     intro h0 j h hj;by_cases e:j=k
     ·subst e;exact h0
     ·exact ha.out j h (by omega)
    clear hA;generalize code[k].op=op at*;generalize code[k].a=a at*;generalize code[k].alts=alts at*;go_wp2_with (first|(go_at_call 89;refine(goodIns_any op a alts _ _ ?_ ?_).mono ?_;exact(HA.out).keep ((Below.refl _ _).alloc (Nat.le_refl _) _);exact HT.out.keep (hb.alloc hb.size _);rintro e w' ⟨rfl,hb2⟩))
    any_goals
     go_ret;exact⟨ret_bool (by rw[HG.out,HF.out (by simp_all)]),(hb.alloc hb.size _).trans (hb2.mono (by have:=hb.size;simp;omega))⟩
    all_goals exact⟨⟨k+1,by omega,by go_num,HN.out (by simp_all),(hb.alloc hb.size _).trans (hb2.mono (by have:=hb.size;simp;omega))⟩,by simp[intOf];omega⟩
   ·go_wp2;go_ret;exact⟨ret_bool (by rw[HG.out,all_true _ _ (λj h=>ha.out j h (by omega))]),hb⟩
 ·have HG:Hid (codeG code=false):=by show _=_;simp[codeG,hl]
  go_enter Tryz.func73,Tryz.ntmps73;go_wp2;go_ret;exact⟨ret_bool HG.out.symm,Below.refl _ _⟩
def impsFrom:ByteArray->List LImp->Bool
 |_,[]=>true
 |last,x::r=>nmB x.name && gtB x.name last && arB x.arity && impsFrom x.name r
theorem impsFrom_at(last:ByteArray)(l:List LImp)(k:Nat)(hk:k<l.length):impsFrom last (l.drop k)=(nmB l[k].name && gtB l[k].name last && arB l[k].arity && impsFrom l[k].name (l.drop (k+1))):=by
 rw[List.drop_eq_getElem_cons hk];rfl
theorem goodImports_any(l:List LImp)(v:Value)(w:World)(hI:ImpsAt w v l):
 Calls Tryz.prog 51 #[v] w λe w'=>e=.returned (.bool (impsFrom ⟨#[]⟩ l))∧Below w.heap.size w w':=by
 obtain⟨p,cap,rfl,hs1,hcell⟩:=hI.open;have HC:Hid (∀w',Below w.heap.size w w'->ImpsIn w' p l):=hcell;clear hcell hI;go_enter Tryz.func51,Tryz.ntmps51;go_wp2;go_loopw [3,8] (λs i wr=>∃(k:Nat) (last:ByteArray),k<=l.length∧s=.string last∧i=.int .i64 k∧Hid (impsFrom ⟨#[]⟩ l=impsFrom last (l.drop k))∧Below w.heap.size w wr) (λ_ i _=>l.length-(intOf i).toNat)
 case atStart=>exact⟨0,⟨#[]⟩,Nat.zero_le _,rfl,rfl,rfl,Below.refl _ _⟩
 case round=>
  obtain⟨k,last,hk,rfl,rfl,ha,hb⟩:=hrel;by_cases hlt:k<l.length
  ·obtain⟨b,o,rfl,c0,c1,hsz⟩:=HC.out _ hb k hlt;have HI:Hid (impsFrom ⟨#[]⟩ l=(nmB l[k].name && gtB l[k].name last && arB l[k].arity && impsFrom l[k].name (l.drop (k+1)))):=by
    show _=_;rw[ha.out,impsFrom_at last l k hlt]
   generalize l[k].name=nm at*;generalize l[k].arity=ar at*;have hg2:=le_eq nm last;cases hg:gtB nm last
   ·rw[hg]at hg2;have HG:Hid (gtB nm last=false):=hg;clear hg;go_wp2_with (first|(go_at_call 50;refine(IsName_any _ _ hsz).mono ?_;rintro e w' ⟨rfl,rfl⟩)|(go_at_call 71;refine(isArity_any _ _).mono ?_;rintro e w' ⟨rfl,rfl⟩))
    all_goals
     go_ret;exact⟨ret_bool (by rw[HI.out,HG.out];simp),hb.alloc hb.size _⟩
   ·rw[hg]at hg2;have HG:Hid (gtB nm last=true):=hg;clear hg;go_wp2_with (first|(go_at_call 50;refine(IsName_any _ _ hsz).mono ?_;rintro e w' ⟨rfl,rfl⟩)|(go_at_call 71;refine(isArity_any _ _).mono ?_;rintro e w' ⟨rfl,rfl⟩))
    any_goals
     go_ret;exact⟨ret_bool (by rw[HI.out,HG.out];simp_all),hb.alloc hb.size _⟩
    all_goals exact⟨⟨k+1,nm,by omega,rfl,by go_num,by show _=_;rw[HI.out,HG.out];simp_all,hb.alloc hb.size _⟩,by simp[intOf];omega⟩
  ·go_wp2;go_ret;exact⟨ret_bool (by rw[ha.out,List.drop_of_length_le (by omega)];rfl),hb⟩
theorem impsFrom_rising:∀(l:List LImp) (last:ByteArray),impsFrom last l=true->Rising l∧∀i (h:i<l.length),cmpB last l[i].name<0:=by
 intro l;induction l with
 |nil=>intro last _;exact⟨λi j hi=>absurd hi (by simp),λi h=>absurd h (by simp)⟩
 |cons x r ih=>
  intro last h;simp only[impsFrom,Bool.and_eq_true]at h;obtain⟨⟨⟨_,hg⟩,_⟩,hr⟩:=h;obtain⟨h1,h2⟩:=ih x.name hr;have h0:=(gtB_iff _ _).1 hg;refine⟨λi j hi hj hij=>?_,λi hi=>?_⟩
  ·cases i with
   |zero=>
    cases j with
    |zero=>omega
    |succ j=>exact h2 j (by simpa using hj)
   |succ i=>
    cases j with
    |zero=>omega
    |succ j=>exact h1 i j (by simpa using hi) (by simpa using hj) (by omega)
  ·cases i with
   |zero=>exact h0
   |succ i=>exact cmpB_trans h0 (h2 i (by simpa using hi))
def globsFrom(imps:List LImp):ByteArray->List LGlob->Bool
 |_,[]=>true
 |last,x::r=>nmB x.name && gtB x.name last && !hasN imps x.name && arB x.arity && codeG x.code && globsFrom imps x.name r
theorem globsFrom_at(imps:List LImp)(last:ByteArray)(l:List LGlob)(k:Nat)(hk:k<l.length):globsFrom imps last (l.drop k)=(nmB l[k].name && gtB l[k].name last && !hasN imps l[k].name && arB l[k].arity && codeG l[k].code && globsFrom imps l[k].name (l.drop (k+1))):=by
 rw[List.drop_eq_getElem_cons hk];rfl
theorem goodGlobals_any(l:List LGlob)(imps:List LImp)(v iv:Value)(w:World)(hG:GlobsAt w v l)(hI:ImpsAt w iv imps)(hr:Rising imps)(hT:TabAt w):
 Calls Tryz.prog 52 #[v,iv] w λe w'=>e=.returned (.bool (globsFrom imps ⟨#[]⟩ l))∧Below w.heap.size w w':=by
 obtain⟨p,cap,rfl,hs1,hcell⟩:=hG.open;have HC:Hid (∀w',Below w.heap.size w w'->GlobsIn w' p l):=hcell;have HI0:Hid (ImpsAt w iv imps):=hI;have HR:Hid (Rising imps):=hr;have HT:Hid (TabAt w):=hT;clear hcell hI hG hr hT;go_enter Tryz.func52,Tryz.ntmps52;go_wp2;go_loopw [5,10] (λs i wr=>∃(k:Nat) (last:ByteArray),k<=l.length∧s=.string last∧i=.int .i64 k∧Hid (globsFrom imps ⟨#[]⟩ l=globsFrom imps last (l.drop k))∧Below w.heap.size w wr) (λ_ i _=>l.length-(intOf i).toNat)
 case atStart=>exact⟨0,⟨#[]⟩,Nat.zero_le _,rfl,rfl,rfl,Below.refl _ _⟩
 case round=>
  obtain⟨k,last,hk,rfl,rfl,ha,hb⟩:=hrel;by_cases hlt:k<l.length
  ·obtain⟨b,o,cp,cn,cc,rfl,c0,c1,c2,c3,hC,hsz⟩:=HC.out _ hb k hlt;have HCo:Hid (CodeAt wr (.slice cp cn cc) l[k].code):=hC;have HI:Hid (globsFrom imps ⟨#[]⟩ l=(nmB l[k].name && gtB l[k].name last && !hasN imps l[k].name && arB l[k].arity && codeG l[k].code && globsFrom imps l[k].name (l.drop (k+1)))):=by
    show _=_;rw[ha.out,globsFrom_at imps last l k hlt]
   clear hC;generalize l[k].name=nm at*;generalize l[k].arity=ar at*;generalize l[k].exp=ex at*;generalize l[k].code=code at*;have hg2:=le_eq nm last;have hbs:=hb.size;cases hg:gtB nm last
   ·rw[hg]at hg2;have HG:Hid (gtB nm last=false):=hg;clear hg;go_wp2_with (first|(go_at_call 50;refine(IsName_any _ _ hsz).mono ?_;rintro e w' ⟨rfl,rfl⟩))
    all_goals
     go_ret;exact⟨ret_bool (by rw[HI.out,HG.out];simp),hb.alloc hb.size _⟩
   ·rw[hg]at hg2;have HG:Hid (gtB nm last=true):=hg;clear hg;go_wp2_with (first|(go_at_call 50;refine(IsName_any _ _ hsz).mono ?_;rintro e w' ⟨rfl,rfl⟩)|(go_at_call 72;refine(Imported_any imps _ _ _ ?_ HR.out).mono ?_;exact HI0.out.keep (hb.alloc hb.size _);rintro e w1 ⟨rfl,hb2⟩;obtain⟨z0,z1⟩:=bcell hb2;have hz:wr.heap.size<w1.heap.size:=(by have:=hb2.size;simp at this;omega))|(go_at_call 71;refine(isArity_any _ _).mono ?_;rintro e w' ⟨rfl,rfl⟩)|(go_at_call 73;refine(goodCode_any code _ _ ?_ ?_).mono ?_;exact HCo.out.keep (((Below.refl _ _).alloc (Nat.le_refl _) _).trans (hb2.mono (by simp)));exact HT.out.keep ((hb.alloc hb.size _).trans (hb2.mono (by simp;omega)));rintro e w2 ⟨rfl,hb3⟩;obtain⟨z2,z3⟩:=bcell hb3))
    any_goals
     go_ret;refine⟨ret_bool (by rw[HI.out,HG.out];simp_all),?_⟩;first
      |exact hb.alloc hb.size _
      |exact(hb.alloc hb.size _).trans (hb2.mono (by simp;omega))
      |exact((hb.alloc hb.size _).trans (hb2.mono (by simp;omega))).trans (hb3.mono (by omega))
    all_goals exact⟨⟨k+1,nm,by omega,rfl,by go_num,by show _=_;rw[HI.out,HG.out];simp_all,((hb.alloc hb.size _).trans (hb2.mono (by simp;omega))).trans (hb3.mono (by omega))⟩,by simp[intOf];omega⟩
  ·go_wp2;go_ret;exact⟨ret_bool (by rw[ha.out,List.drop_of_length_le (by omega)];rfl),hb⟩
def valsG(O:LObj):Bool:=nmB O.name && impsFrom ⟨#[]⟩ O.imps && globsFrom O.imps ⟨#[]⟩ O.globs
def errV(b:Bool)(ev:Value):Value:=if b then .nilIface else ev
theorem Values_any(O:LObj)(v ev:Value)(w:World)(hO:ObjAt w v O)(hT:TabAt w)(hE:w.cell? ⟨18,0,none⟩=some ev)(hev:∃t x,ev=.iface t x):
 Calls Tryz.prog 32 #[v] w λe w'=>e=.returned (errV (valsG O) ev)∧Below w.heap.size w w':=by
 obtain⟨t,x,rfl⟩:=hev;obtain⟨iv,gv,rfl,hsz,hI,hG⟩:=hO;obtain⟨ip,ic,rfl,-,-⟩:=id hI;obtain⟨gp,gc,rfl,-,-⟩:=id hG;have HI:Hid (ImpsAt w (.slice ip O.imps.length ic) O.imps):=hI;have HG:Hid (GlobsAt w (.slice gp O.globs.length gc) O.globs):=hG;have HT:Hid (TabAt w):=hT;have HV:Hid (valsG O=(nmB O.name && impsFrom ⟨#[]⟩ O.imps && globsFrom O.imps ⟨#[]⟩ O.globs)):=rfl;have HR:Hid (impsFrom ⟨#[]⟩ O.imps=true->Rising O.imps):=λh=>(impsFrom_rising _ _ h).1;clear hI hG hT;generalize O.name=nm at*;generalize hil:O.imps.length=il at*;generalize hgl:O.globs.length=gl at*;clear hil hgl;generalize hb0:valsG O=vb at*;have HV0:Hid (vb=(nmB nm && impsFrom ⟨#[]⟩ O.imps && globsFrom O.imps ⟨#[]⟩ O.globs)):=HV;clear hb0 HV;have h00:0<w.heap.size:=Nat.lt_of_le_of_lt (Nat.zero_le _) (block_lt_of_cell hE);have hE2:=λo=>cell_keep ((Below.refl w.heap.size w).alloc (Nat.le_refl _) o) hE;cases h1:impsFrom ⟨#[]⟩ O.imps
 ·have HB:Hid (impsFrom ⟨#[]⟩ O.imps=false):=h1;have HF:Hid (vb=false):=by show _=_;rw[HV0.out,h1];simp
  clear h1;obtain rfl:vb=false:=HF.out;go_enter Tryz.func32,Tryz.ntmps32;go_wp2_with (first|(go_at_call 50;refine(IsName_any _ _ hsz).mono ?_;rintro e w' ⟨rfl,rfl⟩)|(go_at_call 51;refine(goodImports_any O.imps _ _ ?_).mono ?_;exact HI.out.keep ((Below.refl _ _).alloc (Nat.le_refl _) _);rintro e w' ⟨he,hb2⟩;rw[HB.out]at he;subst he;have hE3:=cell_keep (((Below.refl w.heap.size w).alloc (Nat.le_refl _) _).trans (hb2.mono (by simp))) hE;obtain⟨z0,z1⟩:=bcell hb2))
  all_goals
   go_ret;refine⟨rfl,?_⟩;first
    |exact(Below.refl _ _).alloc (Nat.le_refl _) _
    |exact((Below.refl _ _).alloc (Nat.le_refl _) _).trans (hb2.mono (by simp))
 ·have HB:Hid (impsFrom ⟨#[]⟩ O.imps=true):=h1;have HF:Hid (vb=(nmB nm && globsFrom O.imps ⟨#[]⟩ O.globs)):=by show _=_;rw[HV0.out,h1];simp
  clear h1;go_enter Tryz.func32,Tryz.ntmps32;go_wp2_with (first|(go_at_call 50;refine(IsName_any _ _ hsz).mono ?_;rintro e w' ⟨rfl,rfl⟩)|(go_at_call 51;refine(goodImports_any O.imps _ _ ?_).mono ?_;exact HI.out.keep ((Below.refl _ _).alloc (Nat.le_refl _) _);rintro e w1 ⟨he,hb2⟩;rw[HB.out]at he;subst he;have hE3:=cell_keep (((Below.refl w.heap.size w).alloc (Nat.le_refl _) _).trans (hb2.mono (by simp))) hE;obtain⟨z0,z1⟩:=bcell hb2;have hz:w.heap.size<w1.heap.size:=(by have:=hb2.size;simp at this;omega);have h01:0<w1.heap.size:=(by omega))|(go_at_call 52;refine(goodGlobals_any O.globs O.imps _ _ _ ?_ ?_ (HR.out HB.out) ?_).mono ?_;exact HG.out.keep (((Below.refl _ _).alloc (Nat.le_refl _) _).trans (hb2.mono (by simp)));exact HI.out.keep (((Below.refl _ _).alloc (Nat.le_refl _) _).trans (hb2.mono (by simp)));exact HT.out.keep (((Below.refl _ _).alloc (Nat.le_refl _) _).trans (hb2.mono (by simp)));rintro e w2 ⟨rfl,hb3⟩;have hE4:=cell_keep ((((Below.refl w.heap.size w).alloc (Nat.le_refl _) _).trans (hb2.mono (by simp))).trans (hb3.mono (by omega))) hE;obtain⟨z2,z3⟩:=bcell hb3))
  all_goals
   go_ret;refine⟨ret_val' ?_,?_⟩
   ·rw[HF.out];simp_all[errV]
   ·first
     |exact(Below.refl _ _).alloc (Nat.le_refl _) _
     |exact(((Below.refl _ _).alloc (Nat.le_refl _) _).trans (hb2.mono (by simp))).trans (hb3.mono (by omega))
end Go.Proofs.YtlccndplhfcknaaGreatDoor
namespace Go.Proofs.YtlccndplhfcknaaGreatDoor
open Go.RowKit Go.Sort
def noN(l:List LImp)(n:ByteArray)(j:Nat):Bool:=(l.take j).all λx=>!(x.name.toList==n.toList)
theorem noN_next(l:List LImp)(n:ByteArray)(j:Nat)(hj:j<l.length):noN l n (j+1)=(noN l n j && !(l[j].name.toList==n.toList)):=by
 unfold noN;rw[List.take_succ_eq_append_getElem hj,List.all_append];simp
theorem noN_all(l:List LImp)(n:ByteArray):noN l n l.length=!hasN l n:=by
 unfold noN hasN;rw[List.take_length,List.all_eq_not_any_not];congr 1
 congr 1
 funext x
 rw[Bool.not_not,Bool.eq_iff_iff,beq_iff_eq,decide_eq_true_eq,cmpB_eq0,ByteArray.toList_eq,ByteArray.toList_eq];constructor
 ·intro h;obtain⟨⟨⟨x⟩⟩,_⟩:=x;obtain⟨⟨y⟩⟩:=n;simp at h;simp[h]
 ·rintro rfl;rfl
def insUpto(code:List LIns)(j:Nat):Bool:=(code.take j).all λx=>insG x.op x.a x.alts
theorem insUpto_next(code:List LIns)(j:Nat)(hj:j<code.length):insUpto code (j+1)=(insUpto code j && insG code[j].op code[j].a code[j].alts):=by
 unfold insUpto;rw[List.take_succ_eq_append_getElem hj,List.all_append];simp
theorem Shaped_any(O:LObj)(v:Value)(w:World)(hO:ObjAt w v O):
 Calls Tryz.prog 29 #[v] w λe w'=>e=.returned (.bool (valsG O))∧Below w.heap.size w w':=by
 obtain⟨iv,gv,rfl,hsz,hI,hG⟩:=hO;obtain⟨ip,ic,rfl,hi1,hicell⟩:=hI.open;obtain⟨p,cap,rfl,hs1,hcell⟩:=hG.open;have HC:Hid (∀w',Below w.heap.size w w'->GlobsIn w' p O.globs):=hcell;have HCI:Hid (∀w',Below w.heap.size w w'->ImpsIn w' ip O.imps):=hicell;have HV:Hid (valsG O=(nmB O.name && impsFrom ⟨#[]⟩ O.imps && globsFrom O.imps ⟨#[]⟩ O.globs)):=rfl;clear hcell hicell hG hI;generalize valsG O=V at*;generalize O.name=onm at*;generalize O.imps=imps at*;generalize O.globs=globs at*;go_enter Tryz.func29,Tryz.ntmps29;go_wp2_with (first|(go_at_call 46;refine(isName_any _ _ hsz).mono ?_;rintro e w' ⟨rfl,rfl⟩))
 go_loopw [3,4,5] (λs3 s4 s5 wr=>∃(k:Nat) (last:ByteArray) (ok:Bool),k<=imps.length∧s3=.bool ok∧s4=.string last∧s5=.int .i64 k∧Hid (V=(ok && impsFrom last (imps.drop k) && globsFrom imps ⟨#[]⟩ globs))∧Hid (Below w.heap.size w wr)∧wr.cell? ⟨w.heap.size,1,none⟩=some (.slice ip imps.length ic)∧wr.cell? ⟨w.heap.size,2,none⟩=some (.slice p globs.length cap)∧w.heap.size<wr.heap.size) (λ_ _ s5 _=>imps.length-(intOf s5).toNat)
 case atStart=>exact⟨0,_,_,Nat.zero_le _,rfl,rfl,rfl,HV,(Below.refl _ _).alloc (Nat.le_refl _) _,by simp,by simp,by simp⟩
 case round=>
  obtain⟨k,last,ok,hk,rfl,rfl,rfl,ha,hb,q1,q2,hz⟩:=hrel;clear HV;by_cases hlt:k<imps.length
  ·obtain⟨b,o,rfl,c0,c1,hn1⟩:=HCI.out _ hb.out k hlt;have HS:Hid (∀okN:Bool,(ok && (nmB imps[k].name && gtB imps[k].name last && (decide (0<=imps[k].arity) && decide (imps[k].arity<=20))))=okN->V=(okN && impsFrom imps[k].name (imps.drop (k+1)) && globsFrom imps ⟨#[]⟩ globs)):=by
    intro okN h;rw[ha.out,impsFrom_at last imps k hlt,<-h];unfold arB;simp only[Bool.and_assoc]
   clear ha;generalize imps[k].name=nm at*;generalize imps[k].arity=ar at*;have hg2:=le_eq nm last;generalize gtB nm last=gt at*;have HNM:Hid (∀w,Calls Tryz.prog 46 #[.string nm] w λe w'=>e=.returned (.bool (nmB nm))∧w'=w):=λw=>isName_any _ w hn1;generalize nmB nm=nmb at*;have hbs:=hb.out.size;go_wp2_with (first|(go_at_call 46;refine(HNM.out _).mono ?_;rintro e w' ⟨rfl,rfl⟩))
   all_goals exact⟨⟨k+1,nm,_,by omega,rfl,rfl,by go_num,HS.out _ (by clear HC HCI HNM HS;first|(simp_all;done)|(simp_all;omega)),hb.out.alloc hbs _,cell_keep ((Below.refl _ _).alloc (Nat.le_refl _) _) q1,cell_keep ((Below.refl _ _).alloc (Nat.le_refl _) _) q2,by simp;omega⟩,by simp[intOf];omega⟩
  ·have HV:Hid (V=(ok && globsFrom imps ⟨#[]⟩ globs)):=by
    show _=_;rw[ha.out,List.drop_of_length_le (by omega)];simp[impsFrom]
   clear ha;rename World=>W1
   go_wp2;go_loopw [3,4,8] (λs3 s4 s8 wr=>∃(k:Nat) (last:ByteArray) (ok:Bool),k<=globs.length∧s3=.bool ok∧s4=.string last∧s8=.int .i64 k∧Hid (V=(ok && globsFrom imps last (globs.drop k)))∧Hid (Below w.heap.size w wr)∧wr.cell? ⟨w.heap.size,1,none⟩=some (.slice ip imps.length ic)∧wr.cell? ⟨w.heap.size,2,none⟩=some (.slice p globs.length cap)∧w.heap.size<wr.heap.size) (λ_ _ s8 _=>globs.length-(intOf s8).toNat)
   case atStart=>exact⟨0,_,_,Nat.zero_le _,rfl,rfl,rfl,HV,hb,q1,q2,hz⟩
   case round=>
    clear HV hb q1 q2 hz;obtain⟨k,last,ok,hk,rfl,rfl,rfl,ha,hb,q1,q2,hz⟩:=hrel;by_cases hlt:k<globs.length
    ·obtain⟨b,o,cp,cn,cc,rfl,c0,c1,c2,c3,hC,hn1⟩:=HC.out _ hb.out k hlt;obtain⟨_,_,e3,hcl,hcc⟩:=hC.open;obtain⟨rfl,rfl,rfl⟩:cp=_∧cn=globs[k].code.length∧cc=_:=by simpa using e3
     have HCC:Hid (∀w',Below wr.heap.size wr w'->CodeIn w' cp globs[k].code):=hcc;have HS:Hid (∀okN:Bool,((ok && (nmB globs[k].name && gtB globs[k].name last && (decide (0<=globs[k].arity) && decide (globs[k].arity<=20)) && decide ((globs[k].code.length:Int)<=65535))) && noN imps globs[k].name imps.length && insUpto globs[k].code globs[k].code.length)=okN->V=(okN && globsFrom imps globs[k].name (globs.drop (k+1)))):=by
      intro okN h;rw[ha.out,globsFrom_at imps last globs k hlt,<-h,noN_all];unfold arB codeG insUpto;rw[List.take_length];have e:decide ((globs[k].code.length:Int)<=65535)=decide (globs[k].code.length<=65535):=by apply decide_eq_decide.2;omega
      rw[e];generalize nmB globs[k].name=b1;generalize gtB globs[k].name last=b2;generalize decide (0<=globs[k].arity)=b3;generalize decide (globs[k].arity<=20)=b4;generalize decide (globs[k].code.length<=65535)=b5;generalize hasN imps globs[k].name=b6;generalize (globs[k].code.all λx=>insG x.op x.a x.alts)=b7;generalize globsFrom imps globs[k].name (globs.drop (k+1))=b8;cases ok<;>cases b1<;>cases b2<;>cases b3<;>cases b4<;>cases b5<;>cases b6<;>cases b7<;>cases b8<;>rfl
     clear ha hcc e3 hC;generalize globs[k].name=nm at*;generalize globs[k].arity=ar at*;generalize globs[k].exp=ex at*;generalize globs[k].code=code at*;have hg2:=le_eq nm last;have HNM:Hid (∀w,Calls Tryz.prog 46 #[.string nm] w λe w'=>e=.returned (.bool (nmB nm))∧w'=w):=λw=>isName_any _ w hn1;generalize gtB nm last=gt at*;generalize nmB nm=nmb at*;have hbs:=hb.out.size;obtain⟨okA,hokA⟩:∃okA:Bool,(ok && (nmb && gt && (decide (0<=ar) && decide (ar<=20)) && decide ((code.length:Int)<=65535)))=okA:=⟨_,rfl⟩;have HOK:Hid ((ok && (nmb && gt && (decide (0<=ar) && decide (ar<=20)) && decide ((code.length:Int)<=65535)))=okA):=hokA;have HS2:Hid (∀okN:Bool,(okA && noN imps nm imps.length && insUpto code code.length)=okN->V=(okN && globsFrom imps nm (globs.drop (k+1)))):=by
      intro okN h;exact HS.out okN (by rw[hokA];exact h)
     clear hokA HS;rename World=>W2
     have hba:∀ob,Below W2.heap.size W2 (W2.alloc ob):=λob=>(Below.refl _ _).alloc (Nat.le_refl _) _;have HBA:Hid (∀ob,Below W2.heap.size W2 (W2.alloc ob)):=hba;clear hba;go_wp2_with (first|(go_at_call 46;refine(HNM.out _).mono ?_;rintro e w' ⟨rfl,rfl⟩))
     all_goals
      go_loopw [3,11] (λs3 s11 wr=>∃(j:Nat) (okj:Bool),j<=imps.length∧s3=.bool okj∧s11=.int .i64 j∧Hid (okj=(okA && noN imps nm j))∧Hid (Below W2.heap.size W2 wr)∧wr.cell? ⟨w.heap.size,1,none⟩=some (.slice ip imps.length ic)∧wr.cell? ⟨W2.heap.size,0,none⟩=some (.string nm)∧wr.cell? ⟨W2.heap.size,3,none⟩=some (.slice cp code.length cc)∧W2.heap.size<wr.heap.size) (λ_ s11 _=>imps.length-(intOf s11).toNat)
      case atStart=>
       refine⟨0,_,Nat.zero_le _,rfl,rfl,?_,HBA.out _,cell_keep (HBA.out _) q1,by simp,by simp,by simp⟩;show _=_;rw[<-HOK.out];clear HC HCI HNM HS2 HCC HOK;first|(simp_all[noN];done)|(simp_all[noN];omega)
      case round=>
       obtain⟨j,okj,hj,rfl,rfl,he,hbj,r1,g0,g3,hzj⟩:=hrel;by_cases hjl:j<imps.length
       ·obtain⟨b2,o2,rfl,y0,y1,-⟩:=HCI.out _ (hb.out.trans (hbj.out.mono hbs)) j hjl;have HE:Hid (∀okN:Bool,(okj && !(imps[j].name.toList==nm.toList))=okN->okN=(okA && noN imps nm (j+1))):=by
         intro okN h;rw[noN_next imps nm j hjl,<-h,he.out,Bool.and_assoc]
        generalize imps[j].name=n2 at*;generalize imps[j].arity=a2 at*;cases okj
        ·go_wp2;go_quiet (fail);go_wp2;exact⟨⟨j+1,_,by omega,rfl,by go_num,HE.out _ rfl,below_drewN hbj.out _,r1,g0,g3,hzj⟩,by simp[intOf];omega⟩
        ·go_wp2;go_quiet (fail);go_wp2;exact⟨⟨j+1,_,by omega,rfl,by go_num,HE.out _ rfl,below_drewN hbj.out _,r1,g0,g3,hzj⟩,by simp[intOf];omega⟩
       ·have HE2:Hid (okj=(okA && noN imps nm imps.length)):=by
         show _=_;rw[he.out,show j=imps.length by omega]
        clear he;rename World=>W4
        go_wp2;go_loopw [3,12] (λs3 s12 wr=>∃(i:Nat) (oki:Bool),i<=code.length∧s3=.bool oki∧s12=.int .i64 i∧Hid (oki=(okA && noN imps nm imps.length && insUpto code i))∧Hid (Below W2.heap.size W2 wr)∧wr.cell? ⟨W2.heap.size,3,none⟩=some (.slice cp code.length cc)∧W2.heap.size<wr.heap.size) (λ_ s12 _=>code.length-(intOf s12).toNat)
        case atStart=>exact⟨0,_,Nat.zero_le _,rfl,rfl,by show _=_;rw[HE2.out];simp[insUpto],hbj,g3,hzj⟩
        case round=>
         obtain⟨i,oki,hi,rfl,rfl,he,hbi,g3,hzi⟩:=hrel;clear HE2 hbj hzj;by_cases hil:i<code.length
         ·obtain⟨b3,o3,ap,an,ac,rfl,x0,x1,x2,hA⟩:=HCC.out _ hbi.out i hil;have HFT:Hid (Calls Tryz.prog 47 #[.agg #[.int .i64 code[i].op,.int .i64 code[i].a,.slice ap an ac]] wr λe w'=>e=.returned (.bool (insG code[i].op code[i].a code[i].alts))∧Below wr.heap.size wr w'):=refFits_any _ _ code[i].alts _ wr hA;have HE:Hid (∀okN:Bool,(oki && insG code[i].op code[i].a code[i].alts)=okN->okN=(okA && noN imps nm imps.length && insUpto code (i+1))):=by
           intro okN h;rw[insUpto_next code i hil,<-h,he.out,Bool.and_assoc (okA && noN imps nm imps.length)]
          clear hA he;generalize insG code[i].op code[i].a code[i].alts=ig at*;rename World=>W5
          go_wp2_with (first|(go_at_call 47;refine(HFT.out).mono ?_;rintro e w6 ⟨rfl,hb6⟩))
          all_goals exact⟨⟨i+1,_,by omega,rfl,by go_num,HE.out _ (by simp_all),hbi.out.trans (hb6.mono (by have:=hbi.out.size;omega)),cell_keep hb6 g3,by have:=hb6.size;omega⟩,by simp[intOf];omega⟩
         ·have HF:Hid (V=(oki && globsFrom imps nm (globs.drop (k+1)))):=HS2.out _ (by rw[he.out,show i=code.length by omega]);go_wp2;exact⟨⟨k+1,nm,_,by omega,rfl,rfl,by go_num,HF,hb.out.trans (hbi.out.mono hbs),cell_keep hbi.out q1,cell_keep hbi.out q2,by omega⟩,by simp[intOf];omega⟩
    ·go_wp2;go_ret;exact⟨ret_bool (by rw[ha.out,List.drop_of_length_le (by omega)];simp[globsFrom]),hb.out⟩
end Go.Proofs.YtlccndplhfcknaaGreatDoor
