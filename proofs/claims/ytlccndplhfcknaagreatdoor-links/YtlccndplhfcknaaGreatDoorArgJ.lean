import Derived.Test.YtlccndplhfcknaaGreatDoorRoomyJ
import Derived.Test.YtlccndplhfcknaaGreatDoorKeptJ
import Derived.Lib.SmallJoins
import Derived.Deep.Slices
import Derived.SizedLaws
namespace Go.Proofs.YtlccndplhfcknaaGreatDoor
open Go.RowKit Go.Sort
theorem ImpsAt.names{w:World}{v:Value}{l:List LImp}(h:ImpsAt w v l):short l.length∧∀i (hi:i<l.length),l[i].name.size<=maxLen:=by
 obtain⟨p,cap,-,hs,hc⟩:=h;refine⟨hs,λi hi=>?_⟩;obtain⟨_,_,-,-,-,h⟩:=hc i hi;exact h
theorem AltsAt.short{w:World}{v:Value}{l:List LAlt}(h:AltsAt w v l):short l.length:=by
 obtain⟨p,cap,-,hs,-⟩:=h;exact hs
theorem CodeAt.shorts{w:World}{v:Value}{l:List LIns}(h:CodeAt w v l):short l.length∧∀j (hj:j<l.length),short l[j].alts.length:=by
 obtain⟨p,cap,-,hs,hc⟩:=h;refine⟨hs,λi hi=>?_⟩;obtain⟨_,_,_,-,-,-,-,h⟩:=hc i hi;exact h.short
theorem GlobsAt.names{w:World}{v:Value}{l:List LGlob}(h:GlobsAt w v l):short l.length∧∀i (hi:i<l.length),l[i].name.size<=maxLen∧short l[i].code.length∧∀j (hj:j<l[i].code.length),short l[i].code[j].alts.length:=by
 obtain⟨p,cap,-,hs,hc⟩:=h;refine⟨hs,λi hi=>?_⟩;obtain⟨_,_,_,-,-,-,-,-,h,hn⟩:=hc i hi;exact⟨hn,h.shorts⟩
theorem room_obj{w w':World}{O:LObj}{iv gv iv' gv':Value}(hO:ObjAt w (.agg #[.string O.name,iv,gv]) O)(hb:Below w.heap.size w w')(hI:RelI iv iv' w' 0 O.imps)(hG:KeptG gv gv' w' O.globs):ObjAt w' (.agg #[.string O.name,iv',gv']) O:=by
 obtain⟨ia,ga,e,hsz,hIA,hGA⟩:=hO;obtain⟨rfl,rfl⟩:iv=ia∧gv=ga:=by simpa using e
 refine⟨iv',gv',rfl,hsz,?_,?_⟩
 ·rcases hI with⟨n,c,-,rfl⟩|⟨a,n,c,-,h⟩
  ·exact hIA.keep hb
  ·exact h.at hIA.names.1 hIA.names.2
 ·rcases hG with⟨n,c,-,rfl⟩|⟨a,n,c,-,h⟩
  ·exact hGA.keep hb
  ·exact h.at hGA.names.1 hGA.names.2
theorem room_slices{w':World}{O:LObj}{iv' gv':Value}(h:ObjAt w' (.agg #[.string O.name,iv',gv']) O):∃p c q d,iv'=.slice p O.imps.length c∧gv'=.slice q O.globs.length d:=by
 obtain⟨ia,ga,e,-,hIA,hGA⟩:=h;obtain⟨rfl,rfl⟩:iv'=ia∧gv'=ga:=by simpa using e
 obtain⟨p,c,rfl,-⟩:=hIA.open;obtain⟨q,d,rfl,-⟩:=hGA.open;exact⟨_,_,_,_,rfl,rfl⟩
theorem KeptI.keep{iv iv':Value}{w w':World}{imps:List LImp}(h:KeptI iv iv' w 0 imps)(hb:Below w.heap.size w w'):KeptI iv iv' w' 0 imps:=by
 rcases h with h|⟨a,n,c,e,h⟩
 ·exact Or.inl h
 ·exact Or.inr ⟨a,n,c,e,h.keep hb⟩
theorem KeptG.keep{gv gv':Value}{w w':World}{globs:List LGlob}(h:KeptG gv gv' w globs)(hb:Below w.heap.size w w'):KeptG gv gv' w' globs:=by
 rcases h with h|⟨a,n,c,e,h⟩
 ·exact Or.inl h
 ·exact Or.inr ⟨a,n,c,e,h.keep hb⟩
theorem lawNum_any(d:Int)(w:World):Calls Tryz.prog 9 #[.int .i64 d] w λe w'=>e=.returned (.int .i64 d)∧w'=w:=by
 go_enter Tryz.func9,Tryz.ntmps9;go_wp2;go_ret;exact⟨rfl,rfl⟩
structure C3 (w:World) (b:Nat) (x y z:Value):Prop where
 c0:w.cell? ⟨b,0,none⟩=some x
 c1:w.cell? ⟨b,1,none⟩=some y
 c2:w.cell? ⟨b,2,none⟩=some z
 lt:b<w.heap.size
theorem C3.keep{w w':World}{b:Nat}{x y z:Value}(h:C3 w b x y z)(hb:Below w.heap.size w w'):C3 w' b x y z:=⟨cell_keep hb h.c0,cell_keep hb h.c1,cell_keep hb h.c2,Nat.lt_of_lt_of_le h.lt hb.size⟩
theorem C3.new(w:World)(x y z:Value)(t:TypeId):C3 (w.alloc (.cells #[x,y,z] t)) w.heap.size x y z:=⟨alloc_cell w #[x,y,z] t 0 _ rfl,alloc_cell w #[x,y,z] t 1 _ rfl,alloc_cell w #[x,y,z] t 2 _ rfl,by simp⟩
end Go.Proofs.YtlccndplhfcknaaGreatDoor
namespace Go.Proofs.YtlccndplhfcknaaGreatDoor
open Go.RowKit Go.Sort Go.ChangeShapes Go.WideShapes
def Wt{H:Type}(t:TypeId)(d:DataW H):Prop:=∀n∈d.weights Tryz.prog t,n<=reachBytes
theorem all_mem{H:Type}{P:Program}{e:TypeId}:∀{l:List (DataW H)} {d:DataW H},d∈l->∀n∈d.weights P e,n∈DataW.weightsAll P e l
 |x::r,d,hd,n,hn=>by
  simp only[DataW.weightsAll,List.mem_append];rcases List.mem_cons.1 hd with rfl|h
  ·exact Or.inl hn
  ·exact Or.inr (all_mem h n hn)
theorem Wt.slice{H:Type}{t e:TypeId}{es sp:List (DataW H)}(hu:Tryz.prog.underlying t=some (.slice e))(h:Wt t (.slice es sp)):es.length*Tryz.prog.bytesOf e<=reachBytes∧∀d∈es,Wt e d:=by
 refine⟨?_,λd hd n hn=>h n ?_⟩
 ·have:=h ((es.length+sp.length)*Tryz.prog.bytesOf e) (by simp[DataW.weights,hu]);exact Nat.le_trans (Nat.mul_le_mul_right _ (by omega)) this
 ·simp only[DataW.weights,hu,List.mem_cons,List.mem_append];exact Or.inr (Or.inl (all_mem hd n hn))
theorem Wt.part{H:Type}{t:TypeId}{fs:Array Field}{parts:List (DataW H)}(hu:Tryz.prog.underlying t=some (.struct fs))(h:Wt t (.agg parts)){j:Nat}{f:Field}{d:DataW H}(hf:fs[j]?=some f)(hd:parts[j]?=some d):Wt f.type d:=by
 intro n hn;refine h n ?_;simp only[DataW.weights,hu];exact DataW.weights_mem_each (j:=j) (t:=f.type) (by simp[hf]) hd n hn
theorem slice_get{H:Type}{enc:TypeId×Value->H}{w:World}{spare:Nat->Bool}{held:Bool}{t e:TypeId}{k fuel:Nat}{v:Value}{x:DataW H×List MemPlace}(hu:Tryz.prog.underlying t=some (.slice e))(hk:Tryz.prog.cellsOf e=k)(hk0:0<k)(h:DataW.trod enc Tryz.prog w 0 spare held fuel t [v]=some x)(hw:Wt t x.1):
 v=.slice none 0 0∨∃a len cap n,v=.slice (some a) len cap∧len*Tryz.prog.bytesOf e<=reachBytes∧
  ∀i,i<len->∃b o cs y,a=⟨b,o,none⟩∧cs.length=k∧(∀j,j<k->w.cell? ⟨b,o+i*k+j,none⟩=cs[j]?)∧DataW.trod enc Tryz.prog w 0 spare held n e cs=some y∧Wt e y.1:=by
 rcases Go.Deep.open_slice hu h with⟨h0,-⟩|⟨a,len,cap,m,n,D,Pl,h0,-,hl,-,hm,rfl,hx⟩
 ·exact Or.inl (by simpa using h0)
 ·obtain rfl:v=.slice (some a) len cap:=by simpa using h0
  obtain⟨hs,he⟩:=hw.slice hu;refine Or.inr ⟨a,len,cap,n,rfl,by simpa using hs,λi hi=>?_⟩;have him:i<m:=by rw[hm];split<;>omega
  obtain⟨cs,hc,ht⟩:=hx i him;rw[hk]at hc;obtain⟨-,hlen,hcell⟩:=World.cells?_some hc;obtain⟨cs0,hc0,-⟩:=hx 0 (by omega);rw[hk]at hc0;obtain⟨-,hlen0,hcell0⟩:=World.cells?_some hc0;obtain⟨b,o,spot⟩:=a;have h1:=hcell0 0 hk0;rw[List.getElem?_eq_getElem (by omega)]at h1;have hspot:spot=none:=by simpa[Addr.add]using World.cell?_spot h1
  subst hspot;refine⟨b,o,cs,_,rfl,hlen,λj hj=>?_,ht,he _ ?_⟩
  ·have:=hcell j hj;rw[add_off,add_off]at this;exact this
  ·simp only[List.mem_map,List.mem_range];exact⟨i,hi,rfl⟩
theorem one_int{H:Type}{enc:TypeId×Value->H}{w:World}{spare:Nat->Bool}{held:Bool}{t:TypeId}{fuel:Nat}{cs:List Value}{y:DataW H×List MemPlace}(hu:Tryz.prog.underlying t=some (.int .i64))(h:DataW.trod enc Tryz.prog w 0 spare held fuel t cs=some y):∃n:Int,cs=[.int .i64 n]:=by
 obtain⟨n,h1,-⟩:=DataW.trod_int hu h;exact⟨n,h1⟩
theorem one_at{cs:List Value}{i k:Nat}{v:Value}(hk:k=1)(h:(cs.drop i).take k=[v]):cs[i]?=some v:=by
 subst hk;have h1:=congrArg (·[0]?) h;simpa[List.getElem?_take,List.getElem?_drop]using h1
theorem one_cell{cs:List Value}{i k:Nat}(hk:k=1)(hi:i<cs.length):∃v,(cs.drop i).take k=[v]∧cs[i]?=some v:=by
 subst hk;exact⟨cs[i],by rw[List.drop_eq_getElem_cons hi];rfl,List.getElem?_eq_getElem hi⟩
theorem cells_int:Tryz.prog.cellsOf 3=1:=by kernel_rfl
theorem cells_bool:Tryz.prog.cellsOf 4=1:=by kernel_rfl
theorem cells_string:Tryz.prog.cellsOf 9=1:=by kernel_rfl
theorem cells_alts:Tryz.prog.cellsOf 35=1:=by kernel_rfl
theorem cells_code:Tryz.prog.cellsOf 38=1:=by kernel_rfl
theorem cells_alt:Tryz.prog.cellsOf 76=2:=by kernel_rfl
theorem cells_ins:Tryz.prog.cellsOf 37=3:=by kernel_rfl
theorem cells_imp:Tryz.prog.cellsOf 69=2:=by kernel_rfl
theorem cells_glob:Tryz.prog.cellsOf 40=4:=by kernel_rfl
theorem bytes_alt:Tryz.prog.bytesOf 76=16:=by kernel_rfl
theorem bytes_ins:Tryz.prog.bytesOf 37=40:=by kernel_rfl
theorem bytes_imp:Tryz.prog.bytesOf 69=24:=by kernel_rfl
theorem bytes_glob:Tryz.prog.bytesOf 40=56:=by kernel_rfl
theorem alt_of{H:Type}{enc:TypeId×Value->H}{w:World}{spare:Nat->Bool}{held:Bool}{fuel:Nat}{cs:List Value}{y:DataW H×List MemPlace}(h:DataW.trod enc Tryz.prog w 0 spare held fuel 76 cs=some y):∃x:LAlt,cs[0]?=some (.int .i64 x.tag)∧cs[1]?=some (.int .i64 x.to):=by
 obtain⟨y0,y1,n,-,-,h0,h1⟩:=trod_struct2 Tryz.underlying76 h;obtain⟨a,e0⟩:=one_int Tryz.underlying3 h0;obtain⟨b,e1⟩:=one_int Tryz.underlying3 h1;exact⟨⟨a,b⟩,one_at cells_int e0,one_at cells_int e1⟩
theorem alts_of{H:Type}{enc:TypeId×Value->H}{w:World}{spare:Nat->Bool}{held:Bool}{fuel:Nat}{v:Value}{x:DataW H×List MemPlace}(h:DataW.trod enc Tryz.prog w 0 spare held fuel 35 [v]=some x)(hw:Wt 35 x.1):∃l:List LAlt,AltsAt w v l∧l.length*16<=140737488351232:=by
 rcases slice_get Tryz.underlying35 cells_alt (by omega) h hw with rfl|⟨a,len,cap,n,rfl,hs,hx⟩
 ·exact⟨[],⟨none,0,rfl,by simp[short],λi hi=>absurd hi (by simp)⟩,by simp⟩
 ·rw[bytes_alt]at hs;have:Inhabited LAlt:=⟨⟨0,0⟩⟩;obtain⟨f,hf⟩:=Go.Deep.choose_lt (α:=LAlt) (n:=len) (p:=λi x=>∃b o,a=⟨b,o,none⟩∧w.cell? ⟨b,o+i*2,none⟩=some (.int .i64 x.tag)∧w.cell? ⟨b,o+i*2+1,none⟩=some (.int .i64 x.to)) (λi hi=>by
   obtain⟨b,o,cs,y,rfl,-,hc,ht,-⟩:=hx i hi;obtain⟨x,h0,h1⟩:=alt_of ht;exact⟨x,b,o,rfl,(hc 0 (by omega)).trans h0,(hc 1 (by omega)).trans h1⟩)
  have hl:((List.range len).map f).length=len:=by simp
  refine⟨(List.range len).map f,⟨some a,cap,by rw[hl],?_,λi hi=>?_⟩,?_⟩
  ·rw[hl];simp only[short];unfold reachBytes at hs;omega
  ·rw[hl]at hi;obtain⟨b,o,e,h0,h1⟩:=hf i hi;exact⟨b,o,by rw[e],by simpa using h0,by simpa using h1⟩
  ·rw[hl];unfold reachBytes at hs;omega
theorem ins_of{H:Type}{enc:TypeId×Value->H}{w:World}{spare:Nat->Bool}{held:Bool}{fuel:Nat}{cs:List Value}{y:DataW H×List MemPlace}(hl:cs.length=3)(h:DataW.trod enc Tryz.prog w 0 spare held fuel 37 cs=some y)(hw:Wt 37 y.1):
 ∃(x:LIns) (av:Value),cs[0]?=some (.int .i64 x.op)∧cs[1]?=some (.int .i64 x.a)∧cs[2]?=some av∧AltsAt w av x.alts∧x.alts.length*16<=140737488351232:=by
 obtain⟨y0,y1,y2,n,rfl,-,h0,h1,h2⟩:=Go.Deep.trod_struct3 Tryz.underlying37 h;obtain⟨a,e0⟩:=one_int Tryz.underlying3 h0;obtain⟨b,e1⟩:=one_int Tryz.underlying3 h1;obtain⟨v,e2,e3⟩:=one_cell (cs:=cs) (i:=2) cells_alts (by omega);have h2':DataW.trod enc Tryz.prog w 0 spare held n 35 ((cs.drop 2).take (Tryz.prog.cellsOf 35))=some y2:=h2;rw[e2]at h2';obtain⟨l,hA,hA2⟩:=alts_of h2' (hw.part Tryz.underlying37 (j:=2) rfl rfl);exact⟨⟨a,b,l⟩,v,one_at cells_int e0,one_at cells_int e1,e3,hA,hA2⟩
theorem code_of{H:Type}{enc:TypeId×Value->H}{w:World}{spare:Nat->Bool}{held:Bool}{fuel:Nat}{v:Value}{x:DataW H×List MemPlace}(h:DataW.trod enc Tryz.prog w 0 spare held fuel 38 [v]=some x)(hw:Wt 38 x.1):∃l:List LIns,CodeAt w v l∧l.length*40<=140737488351232∧∀c∈l,c.alts.length*16<=140737488351232:=by
 rcases slice_get Tryz.underlying38 cells_ins (by omega) h hw with rfl|⟨a,len,cap,n,rfl,hs,hx⟩
 ·exact⟨[],⟨none,0,rfl,by simp[short],λi hi=>absurd hi (by simp)⟩,by simp,λc hc=>by cases hc⟩
 ·rw[bytes_ins]at hs;have:Inhabited LIns:=⟨⟨0,0,[]⟩⟩;obtain⟨f,hf⟩:=Go.Deep.choose_lt (α:=LIns) (n:=len) (p:=λi x=>∃b o av,a=⟨b,o,none⟩∧w.cell? ⟨b,o+i*3,none⟩=some (.int .i64 x.op)∧w.cell? ⟨b,o+i*3+1,none⟩=some (.int .i64 x.a)∧w.cell? ⟨b,o+i*3+2,none⟩=some av∧AltsAt w av x.alts∧x.alts.length*16<=140737488351232) (λi hi=>by
   obtain⟨b,o,cs,y,rfl,hl,hc,ht,hwt⟩:=hx i hi;obtain⟨x,av,h0,h1,h2,h3⟩:=ins_of hl ht hwt;exact⟨x,b,o,av,rfl,(hc 0 (by omega)).trans h0,(hc 1 (by omega)).trans h1,(hc 2 (by omega)).trans h2,h3⟩)
  have hl:((List.range len).map f).length=len:=by simp
  refine⟨(List.range len).map f,⟨some a,cap,by rw[hl],?_,λi hi=>?_⟩,?_,λc hc=>?_⟩
  ·rw[hl];simp only[short];unfold reachBytes at hs;omega
  ·rw[hl]at hi;obtain⟨b,o,av,e,h0,h1,h2,h3,-⟩:=hf i hi;exact⟨b,o,av,by rw[e],by simpa using h0,by simpa using h1,h2,by simpa using h3⟩
  ·rw[hl];unfold reachBytes at hs;omega
  ·simp only[List.mem_map,List.mem_range]at hc;obtain⟨i,hi,rfl⟩:=hc;obtain⟨-,-,-,-,-,-,-,-,h⟩:=hf i hi;exact h
theorem one_string{H:Type}{enc:TypeId×Value->H}{w:World}{spare:Nat->Bool}{held:Bool}{t:TypeId}{fuel:Nat}{cs:List Value}{y:DataW H×List MemPlace}(hu:Tryz.prog.underlying t=some .string)(h:DataW.trod enc Tryz.prog w 0 spare held fuel t cs=some y):∃s:ByteArray,cs=[.string s]∧s.size<=maxLen:=by
 obtain⟨s,h1,-,h2⟩:=DataW.trod_string hu h;exact⟨s,h1,h2⟩
theorem one_bool{H:Type}{enc:TypeId×Value->H}{w:World}{spare:Nat->Bool}{held:Bool}{t:TypeId}{fuel:Nat}{cs:List Value}{y:DataW H×List MemPlace}(hu:Tryz.prog.underlying t=some .bool)(h:DataW.trod enc Tryz.prog w 0 spare held fuel t cs=some y):∃b:Bool,cs=[.bool b]:=by
 obtain⟨b,h1,-⟩:=DataW.trod_bool hu h;exact⟨b,h1⟩
theorem imp_of{H:Type}{enc:TypeId×Value->H}{w:World}{spare:Nat->Bool}{held:Bool}{fuel:Nat}{cs:List Value}{y:DataW H×List MemPlace}(h:DataW.trod enc Tryz.prog w 0 spare held fuel 69 cs=some y):∃x:LImp,cs[0]?=some (.string x.name)∧cs[1]?=some (.int .i64 x.arity)∧x.name.size<=maxLen:=by
 obtain⟨y0,y1,n,-,-,h0,h1⟩:=trod_struct2 Tryz.underlying69 h;obtain⟨a,e0,hs⟩:=one_string Tryz.underlying9 h0;obtain⟨b,e1⟩:=one_int Tryz.underlying3 h1;exact⟨⟨a,b⟩,one_at cells_string e0,one_at cells_int e1,hs⟩
theorem imps_of{H:Type}{enc:TypeId×Value->H}{w:World}{spare:Nat->Bool}{held:Bool}{fuel:Nat}{v:Value}{x:DataW H×List MemPlace}(h:DataW.trod enc Tryz.prog w 0 spare held fuel 42 [v]=some x)(hw:Wt 42 x.1):∃l:List LImp,ImpsAt w v l∧l.length*24<=140737488351232:=by
 rcases slice_get Tryz.underlying42 cells_imp (by omega) h hw with rfl|⟨a,len,cap,n,rfl,hs,hx⟩
 ·exact⟨[],⟨none,0,rfl,by simp[short],λi hi=>absurd hi (by simp)⟩,by simp⟩
 ·rw[bytes_imp]at hs;have:Inhabited LImp:=⟨⟨⟨#[]⟩,0⟩⟩;obtain⟨f,hf⟩:=Go.Deep.choose_lt (α:=LImp) (n:=len) (p:=λi x=>∃b o,a=⟨b,o,none⟩∧w.cell? ⟨b,o+i*2,none⟩=some (.string x.name)∧w.cell? ⟨b,o+i*2+1,none⟩=some (.int .i64 x.arity)∧x.name.size<=maxLen) (λi hi=>by
   obtain⟨b,o,cs,y,rfl,-,hc,ht,-⟩:=hx i hi;obtain⟨x,h0,h1,h2⟩:=imp_of ht;exact⟨x,b,o,rfl,(hc 0 (by omega)).trans h0,(hc 1 (by omega)).trans h1,h2⟩)
  have hl:((List.range len).map f).length=len:=by simp
  refine⟨(List.range len).map f,⟨some a,cap,by rw[hl],?_,λi hi=>?_⟩,?_⟩
  ·rw[hl];simp only[short];unfold reachBytes at hs;omega
  ·rw[hl]at hi;obtain⟨b,o,e,h0,h1,h2⟩:=hf i hi;exact⟨b,o,by rw[e],by simpa using h0,by simpa using h1,by simpa using h2⟩
  ·rw[hl];unfold reachBytes at hs;omega
theorem glob_of{H:Type}{enc:TypeId×Value->H}{w:World}{spare:Nat->Bool}{held:Bool}{fuel:Nat}{cs:List Value}{y:DataW H×List MemPlace}(hl:cs.length=4)(h:DataW.trod enc Tryz.prog w 0 spare held fuel 40 cs=some y)(hw:Wt 40 y.1):
 ∃(x:LGlob) (cv:Value),cs[0]?=some (.string x.name)∧cs[1]?=some (.int .i64 x.arity)∧cs[2]?=some (.bool x.exp)∧cs[3]?=some cv∧CodeAt w cv x.code∧x.name.size<=maxLen∧x.code.length*40<=140737488351232∧∀c∈x.code,c.alts.length*16<=140737488351232:=by
 obtain⟨y0,y1,y2,y3,n,rfl,-,h0,h1,h2,h3⟩:=Go.Joins.trod_struct4 Tryz.underlying40 h;obtain⟨a,e0,hs⟩:=one_string Tryz.underlying9 h0;obtain⟨b,e1⟩:=one_int Tryz.underlying3 h1;obtain⟨c,e2⟩:=one_bool Tryz.underlying4 h2;obtain⟨v,e3,e4⟩:=one_cell (cs:=cs) (i:=3) cells_code (by omega);have h3':DataW.trod enc Tryz.prog w 0 spare held n 38 ((cs.drop 3).take (Tryz.prog.cellsOf 38))=some y3:=h3;rw[e3]at h3';obtain⟨l,hA,hA2⟩:=code_of h3' (hw.part Tryz.underlying40 (j:=3) rfl rfl);exact⟨⟨a,b,c,l⟩,v,one_at cells_string e0,one_at cells_int e1,one_at cells_bool e2,e4,hA,hs,hA2⟩
theorem globs_of{H:Type}{enc:TypeId×Value->H}{w:World}{spare:Nat->Bool}{held:Bool}{fuel:Nat}{v:Value}{x:DataW H×List MemPlace}(h:DataW.trod enc Tryz.prog w 0 spare held fuel 41 [v]=some x)(hw:Wt 41 x.1):∃l:List LGlob,GlobsAt w v l∧SizedG l:=by
 rcases slice_get Tryz.underlying41 cells_glob (by omega) h hw with rfl|⟨a,len,cap,n,rfl,hs,hx⟩
 ·exact⟨[],⟨none,0,rfl,by simp[short],λi hi=>absurd hi (by simp)⟩,by simp[SizedG]⟩
 ·rw[bytes_glob]at hs;have:Inhabited LGlob:=⟨⟨⟨#[]⟩,0,false,[]⟩⟩;obtain⟨f,hf⟩:=Go.Deep.choose_lt (α:=LGlob) (n:=len) (p:=λi x=>∃b o cv,a=⟨b,o,none⟩∧w.cell? ⟨b,o+i*4,none⟩=some (.string x.name)∧w.cell? ⟨b,o+i*4+1,none⟩=some (.int .i64 x.arity)∧w.cell? ⟨b,o+i*4+2,none⟩=some (.bool x.exp)∧w.cell? ⟨b,o+i*4+3,none⟩=some cv∧CodeAt w cv x.code∧x.name.size<=maxLen∧x.code.length*40<=140737488351232∧∀c∈x.code,c.alts.length*16<=140737488351232) (λi hi=>by
   obtain⟨b,o,cs,y,rfl,hl,hc,ht,hwt⟩:=hx i hi;obtain⟨x,cv,h0,h1,h2,h3,h4⟩:=glob_of hl ht hwt;exact⟨x,b,o,cv,rfl,(hc 0 (by omega)).trans h0,(hc 1 (by omega)).trans h1,(hc 2 (by omega)).trans h2,(hc 3 (by omega)).trans h3,h4⟩)
  have hl:((List.range len).map f).length=len:=by simp
  refine⟨(List.range len).map f,⟨some a,cap,by rw[hl],?_,λi hi=>?_⟩,?_,λc hc=>?_⟩
  ·rw[hl];simp only[short];unfold reachBytes at hs;omega
  ·rw[hl]at hi;obtain⟨b,o,cv,e,h0,h1,h2,h3,h4,h5,-⟩:=hf i hi;exact⟨b,o,cv,by rw[e],by simpa using h0,by simpa using h1,by simpa using h2,h3,by simpa using h4,by simpa using h5⟩
  ·rw[hl];unfold reachBytes at hs;omega
  ·simp only[List.mem_map,List.mem_range]at hc;obtain⟨i,hi,rfl⟩:=hc;obtain⟨-,-,-,-,-,-,-,-,-,-,h⟩:=hf i hi;exact h
end Go.Proofs.YtlccndplhfcknaaGreatDoor
