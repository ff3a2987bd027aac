import Derived.Test.YtahmgjjgikgpoaaGreatDoorCards
import Derived.Test.YtahmgjjgikgpoaaGreatDoorArgLJ
import Derived.Test.YtahmgjjgikgpoaaGreatDoorKindKJ
import Derived.Stop.LaidErr
import Derived.LaidHandle
import Derived.OpenShut
import Derived.Maps.OwnSet
import Derived.Maps.Views
import Derived.ProofKit
import Derived.Deep.DeepHandedRow
import Derived.Deep.DeepLaidRun
import Derived.Carry
set_option maxRecDepth 100000
set_option maxHeartbeats 8000000
namespace Go.Proofs.YtahmgjjgikgpoaaGreatDoor
open Go.RowKit Go.Sort Go.ChangeShapes Go.WideShapes
theorem laid_mem{P:Program}{W:World}{x:String×DataW Unit}:∀{l:List (String×DataW Unit)},laidMet P l W->x∈l->∃r,laidMet P (x::r) W
 |y::r,h,hx=>by
  rcases List.mem_cons.1 hx with rfl|hx
  ·exact⟨r,h⟩
  ·exact laid_mem h.tail hx
theorem star: "*"++ "errors.errorString"= "*errors.errorString":=by decide
theorem Tryz.errRow(u:TypeId)(h:Tryz.prog.typeName? 3 u=some "*errors.errorString"):u=251:=
 typeName_ptr_named (nm:= "errors.errorString") (by rw[star];kernel_rfl) (by kernel_rfl) (by decide) u (by rw[star];exact h)
theorem cells_errS:Tryz.prog.cellsOf 271=1:=by kernel_rfl
theorem sent_get{W:World}{n:String}{g:Nat}{text:List UInt8}{l:List (String×DataW Unit)}(h:laidMet Tryz.prog l W)(hm:(n,DataW.iface "*errors.errorString" (.ptr (.agg [.lit (.string text)])))∈l)(hg:Tryz.prog.globalNamed n=some g)(ht:(Tryz.prog.globals[g]?).map (·.type)=some 60):
 ∃(a:Addr) (s:ByteArray),W.cell? ⟨g,0,none⟩=some (errE a)∧W.cell? a=some (.string s)∧s.data.toList=text∧∃c t,W.heap[a.block]?=some (.cells c t (0,0)):=by
 obtain⟨r,h⟩:=laid_mem h hm;obtain⟨ps,⟨g0,t0,cs0,f0,p0,q0,hg0,ht0,hv0,hd0,_,e0⟩,_,hrows⟩:=h;obtain rfl:=Option.some.inj (hg.symm.trans hg0);obtain rfl:=Option.some.inj (ht.symm.trans ht0);subst e0;obtain⟨l0⟩:=cs0;have ok0:∀u v,l0=[.iface u v]->Value.okWide Tryz.prog W .any 0 u v:=λu v e=>by
  subst e;exact(hrows g 0 (by simp[MemPlace.row])).2 u v (by simpa using World.var?_cell hg0 hv0 0)
 obtain⟨a0,s0,rfl,hc0,hs0,hz0,rfl⟩:=errorString_of_trod Tryz.underlying60 Tryz.errRow Tryz.underlying251 Tryz.underlying271 rfl rfl Tryz.underlying9 cells_errS cells_string hd0 ok0;refine⟨a0,s0,by simpa[errE]using World.var?_cell hg0 hv0 0,hc0,hs0,(hrows a0.block a0.off ?_).1⟩;simp[MemPlace.row]
def L13:List (String×DataW Unit):=[("math/bits.deBruijn32tab",Rows.laid_math_bits_deBruijn32tab),("math/bits.deBruijn64tab",Rows.laid_math_bits_deBruijn64tab),("internal/strconv.uint64pow10",Rows.laid_internal_strconv_uint64pow10),("tarn/fault.Long",Rows.laid_tarn_fault_Long),("tarn/fault.Syntax",Rows.laid_tarn_fault_Syntax),("tarn/fault.Deep",Rows.laid_tarn_fault_Deep),("tarn/fault.Twice",Rows.laid_tarn_fault_Twice),("tarn/fault.Name",Rows.laid_tarn_fault_Name),("tarn/fault.Short",Rows.laid_tarn_fault_Short),("tarn/fault.Sum",Rows.laid_tarn_fault_Sum),("tarn/fault.Form",Rows.laid_tarn_fault_Form),("tarn/fault.Varint",Rows.laid_tarn_fault_Varint),("tarn/fault.Order",Rows.laid_tarn_fault_Order),("tarn/fault.More",Rows.laid_tarn_fault_More),("tarn/fault.Index",Rows.laid_tarn_fault_Index),("tarn/fault.Jump",Rows.laid_tarn_fault_Jump),("tarn/fault.Depth",Rows.laid_tarn_fault_Depth),("tarn/fault.Value",Rows.laid_tarn_fault_Value),("tarn/fault.Missing",Rows.laid_tarn_fault_Missing),("tarn/fault.Arity",Rows.laid_tarn_fault_Arity),("tarn/fault.Entry",Rows.laid_tarn_fault_Entry),("tarn/fault.Big",Rows.laid_tarn_fault_Big),("tarn/object.rows",Rows.laid_tarn_object_rows)]
theorem laid_split{W:World}(h:laidMetH Tryz.prog Rows.runsRow.laid W):laidMet Tryz.prog L13 W∧handlesMet Tryz.prog [("errors.errorType",Rows.laid_errors_errorType)] W:=h
def txt:DataW Unit->List UInt8
 |.iface _ (.ptr (.agg [.lit (.string b)]))=>b
 |_=>[]
def kTxt(i:Nat):List UInt8:=([Rows.laid_tarn_fault_Value,Rows.laid_tarn_fault_Index,Rows.laid_tarn_fault_Jump,Rows.laid_tarn_fault_Depth,Rows.laid_tarn_fault_Long,Rows.laid_tarn_fault_Name,Rows.laid_tarn_fault_Short,Rows.laid_tarn_fault_Sum,Rows.laid_tarn_fault_Form,Rows.laid_tarn_fault_Varint,Rows.laid_tarn_fault_Order,Rows.laid_tarn_fault_More,Rows.laid_tarn_fault_Syntax,Rows.laid_tarn_fault_Deep,Rows.laid_tarn_fault_Twice,Rows.laid_tarn_fault_Missing,Rows.laid_tarn_fault_Arity,Rows.laid_tarn_fault_Entry,Rows.laid_tarn_fault_Big].map txt).getD i []
theorem kTxt_ne:∀i,i<19->∀j,j<19->i≠j->kTxt i≠kTxt j:=by decide
theorem sents{W:World}(h:laidMet Tryz.prog L13 W):∀i,i<19->∃(a:Addr) (s:ByteArray),W.cell? ⟨kNum i,0,none⟩=some (errE a)∧W.cell? a=some (.string s)∧s.data.toList=kTxt i∧∃c t,W.heap[a.block]?=some (.cells c t (0,0))
 |0,_=>sent_get (n:= "tarn/fault.Value") h (List.mem_of_getElem? (i:=17) rfl) (by kernel_rfl) (by kernel_rfl)
 |1,_=>sent_get (n:= "tarn/fault.Index") h (List.mem_of_getElem? (i:=14) rfl) (by kernel_rfl) (by kernel_rfl)
 |2,_=>sent_get (n:= "tarn/fault.Jump") h (List.mem_of_getElem? (i:=15) rfl) (by kernel_rfl) (by kernel_rfl)
 |3,_=>sent_get (n:= "tarn/fault.Depth") h (List.mem_of_getElem? (i:=16) rfl) (by kernel_rfl) (by kernel_rfl)
 |4,_=>sent_get (n:= "tarn/fault.Long") h (List.mem_of_getElem? (i:=3) rfl) (by kernel_rfl) (by kernel_rfl)
 |5,_=>sent_get (n:= "tarn/fault.Name") h (List.mem_of_getElem? (i:=7) rfl) (by kernel_rfl) (by kernel_rfl)
 |6,_=>sent_get (n:= "tarn/fault.Short") h (List.mem_of_getElem? (i:=8) rfl) (by kernel_rfl) (by kernel_rfl)
 |7,_=>sent_get (n:= "tarn/fault.Sum") h (List.mem_of_getElem? (i:=9) rfl) (by kernel_rfl) (by kernel_rfl)
 |8,_=>sent_get (n:= "tarn/fault.Form") h (List.mem_of_getElem? (i:=10) rfl) (by kernel_rfl) (by kernel_rfl)
 |9,_=>sent_get (n:= "tarn/fault.Varint") h (List.mem_of_getElem? (i:=11) rfl) (by kernel_rfl) (by kernel_rfl)
 |10,_=>sent_get (n:= "tarn/fault.Order") h (List.mem_of_getElem? (i:=12) rfl) (by kernel_rfl) (by kernel_rfl)
 |11,_=>sent_get (n:= "tarn/fault.More") h (List.mem_of_getElem? (i:=13) rfl) (by kernel_rfl) (by kernel_rfl)
 |12,_=>sent_get (n:= "tarn/fault.Syntax") h (List.mem_of_getElem? (i:=4) rfl) (by kernel_rfl) (by kernel_rfl)
 |13,_=>sent_get (n:= "tarn/fault.Deep") h (List.mem_of_getElem? (i:=5) rfl) (by kernel_rfl) (by kernel_rfl)
 |14,_=>sent_get (n:= "tarn/fault.Twice") h (List.mem_of_getElem? (i:=6) rfl) (by kernel_rfl) (by kernel_rfl)
 |15,_=>sent_get (n:= "tarn/fault.Missing") h (List.mem_of_getElem? (i:=18) rfl) (by kernel_rfl) (by kernel_rfl)
 |16,_=>sent_get (n:= "tarn/fault.Arity") h (List.mem_of_getElem? (i:=19) rfl) (by kernel_rfl) (by kernel_rfl)
 |17,_=>sent_get (n:= "tarn/fault.Entry") h (List.mem_of_getElem? (i:=20) rfl) (by kernel_rfl) (by kernel_rfl)
 |18,_=>sent_get (n:= "tarn/fault.Big") h (List.mem_of_getElem? (i:=21) rfl) (by kernel_rfl) (by kernel_rfl)
 |i+19,h=>absurd h (by omega)
theorem Tryz.et:Tryz.prog.globalNamed "errors.errorType"=some 19:=by kernel_rfl
theorem Tryz.rt:(Tryz.prog.cutTypes.find? (·.1== "internal/reflectlite.rtype")).map (·.2)=some 171:=by kernel_rfl
theorem Tryz.tsize:Tryz.prog.types.size=282:=by kernel_rfl
theorem Tryz.oneRow:((List.range 282).filter λt=>Tryz.prog.rowNamed t [101,114,114,111,114])=[60]:=by kernel_rfl
theorem Tryz.hErr:typeHandle Tryz.prog 60=.pointer (some ⟨25,60,none⟩):=by kernel_rfl
theorem handle_of_laid{W:World}(h:handlesMet Tryz.prog [("errors.errorType",Rows.laid_errors_errorType)] W):W.cell? ⟨19,0,none⟩=some (.iface 171 (.agg #[.pointer (some ⟨25,60,none⟩)])):=by
 obtain⟨name,u,ty,e1,e2,e3,e4,e5⟩:=h _ (List.mem_singleton.2 rfl);have en:name=[101,114,114,111,114]:=(Option.some.inj e1).symm;subst en;obtain rfl:=Option.some.inj (Tryz.rt.symm.trans e2);have hm:ty∈(List.range 282).filter λt=>Tryz.prog.rowNamed t [101,114,114,111,114]:=List.mem_filter.2 ⟨List.mem_range.2 (by rw[<-Tryz.tsize];exact e3),e4⟩;rw[Tryz.oneRow]at hm;obtain rfl:=List.mem_singleton.1 hm;rw[Tryz.hErr]at e5;simpa using World.var?_cell Tryz.et e5 0
theorem sentAt{W:World}(h:laidMetH Tryz.prog Rows.runsRow.laid W):∃adr,SentAt W adr:=by
 obtain⟨h1,h2⟩:=laid_split h;obtain⟨adr,hA⟩:=Go.Deep.choose_lt (sents h1);refine⟨adr,λi ⟨_,hi⟩=>?_,λi ⟨_,hi⟩=>?_,λi j ⟨_,hi⟩ ⟨_,hj⟩ hne e=>?_,handle_of_laid h2⟩
 ·obtain⟨s,h,-⟩:=hA i hi;exact h
 ·obtain⟨s,-,-,-,h⟩:=hA i hi;exact h
 ·obtain⟨s,-,h3,h4,-⟩:=hA i hi;obtain⟨s',-,h5,h6,-⟩:=hA j hj;rw[e]at h3;rw[h3]at h5;simp only[Option.some.injEq,Value.string.injEq]at h5;subst h5;exact kTxt_ne i hi j hj hne (h4.symm.trans h6)
theorem ints_of_struct{W:World}{sp:Nat->Bool}{held:Bool}{e:TypeId}{fs:Array Field}{fuel:Nat}{cs:List Value}{zs:List Int}{p:List MemPlace}(hs:Tryz.prog.underlying e=some (.struct fs))
 (hone:∀(i:Nat) (f:Field),fs[i]?=some f->f.offset=i∧Tryz.prog.cellsOf f.type=1) (hint:∀(i:Nat) (f:Field),fs[i]?=some f->Tryz.prog.underlying f.type=some (.int .i64))
 (h:DataW.trod (λ_=>()) Tryz.prog W 0 sp held fuel e cs=some (.agg (zs.map λz=>.lit (.int .i64 z)),p)):∀i,i<fs.size->cs[i]?=some (.int .i64 (zs.getD i 0)):=by
 intro i hi;obtain⟨xs,n,-,hx,-,hlen,hf⟩:=DataW.trod_struct hs h;have hfi:fs[i]?=some fs[i]:=Array.getElem?_eq_getElem hi;obtain⟨ho,hc⟩:=hone i _ hfi;have h1:=hf i _ hfi;rw[ho,hc,List.getElem?_eq_getElem (by omega)]at h1;obtain⟨z,e1,e2,-⟩:=DataW.trod_int (hint i _ hfi) h1;have e3:zs.map (λz=>(DataW.lit (.int .i64 z):DataW Unit))=xs.map (·.1):=by
  have:=congrArg Prod.fst hx;simpa using this
 have e4:(zs.map (λz=>(DataW.lit (.int .i64 z):DataW Unit)))[i]?=some (.lit (.int .i64 z)):=by
  rw[e3,List.getElem?_map,List.getElem?_eq_getElem (by omega),e2];rfl
 rw[List.getElem?_map]at e4;obtain⟨z',h5,h6⟩:=Option.map_eq_some_iff.1 e4;simp only[DataW.lit.injEq,Lit.int.injEq,true_and]at h6;subst h6;rw[one_at rfl e1,List.getD,h5];rfl
def rowData(k:Nat):DataW Unit:=.agg (((List.range 7).map λj=>rowN k j).map λz=>.lit (.int .i64 z))
theorem rows_data:(Rows.laid_tarn_object_rows:DataW Unit)=.agg ((List.range 21).map rowData):=by rfl
theorem cells_row:Tryz.prog.cellsOf 235=7:=by kernel_rfl
theorem fields_ok:(match Tryz.prog.underlying 235 with|some (.struct fs)=>(List.range fs.size).all (λi=>match fs[i]? with|some f=>f.offset==i && Tryz.prog.cellsOf f.type==1 && (match Tryz.prog.underlying f.type with|some (.int .i64)=>true|_=>false)|none=>false) && fs.size==7|_=>false)=true:=by kernel_rfl
theorem tabAt13{W:World}(h1:laidMet Tryz.prog L13 W):TabAt W:=by
 obtain⟨r,h2⟩:=laid_mem (x:=("tarn/object.rows",Rows.laid_tarn_object_rows)) h1 (List.mem_of_getElem? (i:=22) rfl);obtain⟨ps,⟨g0,t0,cs0,f0,p0,q0,hg0,ht0,hv0,hd0,_,e0⟩,_,hrows⟩:=h2;have hg:Tryz.prog.globalNamed "tarn/object.rows"=some 20:=by kernel_rfl
 have ht:(Tryz.prog.globals[20]?).map (·.type)=some 236:=by kernel_rfl
 obtain rfl:=Option.some.inj (hg.symm.trans hg0);obtain rfl:=Option.some.inj (ht.symm.trans ht0);rw[rows_data]at hd0;obtain⟨xs,m,-,hx,hl,hlen,hf⟩:=DataW.trod_array Tryz.underlying236 hd0;obtain⟨fs,hs⟩:∃fs,Tryz.prog.underlying 235=some (.struct fs):=⟨_,Tryz.underlying235⟩;have hok:=fields_ok;rw[hs]at hok;simp only[Bool.and_eq_true,List.all_eq_true,List.mem_range,beq_iff_eq]at hok;obtain⟨hok,h7⟩:=hok;have hone:∀(i:Nat) (f:Field),fs[i]?=some f->(f.offset=i∧Tryz.prog.cellsOf f.type=1)∧Tryz.prog.underlying f.type=some (.int .i64):=by
  intro i f hi;have hlt:i<fs.size:=(Array.getElem?_eq_some_iff.1 hi).1;have:=hok i hlt;rw[hi]at this;simp only[Bool.and_eq_true,beq_iff_eq]at this;refine⟨this.1,?_⟩;have h3:=this.2;split at h3
  ·rename_i h4
   exact h4
  ·cases h3
 intro i hi;have hk:i / 7<21:=by omega
 have h3:=hf (i / 7) hk;rw[cells_row,List.getElem?_eq_getElem (by omega)]at h3;have h4:(xs.map (·.1))[i / 7]?=some (rowData (i / 7)):=by
  have:=congrArg Prod.fst hx;simp only[DataW.agg.injEq]at this;rw[<-this,List.getElem?_map,List.getElem?_range hk];rfl
 rw[List.getElem?_map,List.getElem?_eq_getElem (by omega)]at h4;simp only[Option.map_some,Option.some.injEq]at h4;have h5:DataW.trod (λ_=>()) Tryz.prog W 0 (λ_=>true) false m 235 ((cs0.toList.drop (i / 7*7)).take 7)=some (.agg (((List.range 7).map λj=>rowN (i / 7) j).map λz=>.lit (.int .i64 z)),(xs[i / 7]'(by omega)).2):=by
  rw[h3];exact congrArg some (Prod.ext h4 rfl)
 have h6:=ints_of_struct hs (λi f h=>(hone i f h).1) (λi f h=>(hone i f h).2) h5 (i % 7) (by omega);have h8:=World.var?_cell hg0 hv0 i;rw[h8];rw[List.getElem?_take,if_pos (by omega),List.getElem?_drop,show i / 7*7+i % 7=i by omega]at h6;have h9:((List.range 7).map λj=>rowN (i / 7) j).getD (i % 7) 0=rowsTab.getD i 0:=by
  rw[List.getD,List.getElem?_map,List.getElem?_range (by omega)];simp only[Option.map_some,Option.getD_some,rowN];rw[show i / 7*7+i % 7=i by omega]
 rw[h9]at h6;simpa using h6
theorem tabAt{W:World}(h:laidMetH Tryz.prog Rows.runsRow.laid W):TabAt W:=tabAt13 (laid_split h).1
end Go.Proofs.YtahmgjjgikgpoaaGreatDoor
namespace Go.Proofs.YtahmgjjgikgpoaaGreatDoor
open Go.RowKit Go.Sort
def xmR:Value->Option (DataW Unit×List MemPlace)
 |.agg cs=>match cs.toList with
  |[.int .i64 a,.int .i64 b]=>some (.agg [.lit (.int .i64 a),.lit (.int .i64 b)],[])
  |_=>none
 |_=>none
theorem xmR_inv{v:Value}{a b:Int}{ps:List MemPlace}(h:xmR v=some (.agg [.lit (.int .i64 a),.lit (.int .i64 b)],ps)):v=.agg #[.int .i64 a,.int .i64 b]:=by
 unfold xmR at h;split at h
 ·split at h
  ·rename_i cs x y e
   simp at h;obtain⟨⟨rfl,rfl⟩,-⟩:=h;congr 1
   exact Array.toList_inj.1 e
  ·cases h
 ·cases h
def xmP:Option (Nat×Int)->Int×Int
 |some (n,a)=>((n:Int),a)
 |none=>(0,0)
def xmV(o:Option (Nat×Int)):Value:=.agg #[.int .i64 (xmP o).1,.int .i64 (xmP o).2]
def xmD(o:Option (Nat×Int)):DataW Unit:=.agg [.lit (.int .i64 (xmP o).1),.lit (.int .i64 (xmP o).2)]
def keyL(t:ByteArray):Lit:=.string t.data.toList
theorem keyL_inj{s t:ByteArray}(h:keyL s=keyL t):s=t:=Go.WideShapes.bytes_inj (by simpa[keyL]using h)
def XM(w:World)(b n:Nat)(f:ByteArray->Option (Nat×Int)):Prop:=∃D,w.ownsMap Tryz.prog 9 xmR b n D∧∀t:ByteArray,Maps.has D (keyL t)=(f t).isSome∧D.atKey (keyL t) (xmD none)=xmD (f t)
theorem Tryz.mapT:Tryz.prog.underlying 92=some (.map 9 97):=by kernel_rfl
theorem Tryz.zeroX(w:World):(zeroValue 97).run Tryz.prog w=.ok (xmV none) w:=by kernel_rfl
theorem XM.new(w:World):XM (w.alloc (.map #[] 0)) w.heap.size 0 λ_=>none:=⟨_,World.ownsMap_made w _ _ _,λ_=>⟨rfl,rfl⟩⟩
theorem XM.keep{w w':World}{b n:Nat}{f:ByteArray->Option (Nat×Int)}(h:XM w b n f)(hb:Below w.heap.size w w'):XM w' b n f:=by
 obtain⟨D,hD,hf⟩:=h;have hl:=hD.lt;obtain⟨es,clock,e,r⟩:=hD;exact⟨D,⟨es,clock,by rw[hb.block b hl];exact e,r⟩,hf⟩
theorem XM.congr{w:World}{b n:Nat}{f g:ByteArray->Option (Nat×Int)}(h:XM w b n f)(e:∀t,f t=g t):XM w b n g:=by
 obtain⟨D,hD,hf⟩:=h;exact⟨D,hD,λt=>by rw[<-e];exact hf t⟩
theorem XM.look{w:World}{b n:Nat}{f:ByteArray->Option (Nat×Int)}(h:XM w b n f)(t:ByteArray)(ht:t.size<=maxLen):(Instr.lookup 92 (.map (some b)) (.string t) true).run Tryz.prog w=.ok (.tuple #[xmV (f t),.bool (f t).isSome]) w:=by
 obtain⟨D,hD,hf⟩:=h;obtain⟨v,ps,hrun,hv⟩:=hD.look_ok (Maps.string_keyed Tryz.underlying9) Tryz.mapT (Tryz.zeroX w) (zd:=xmD none) (zp:=[]) rfl (Go.WideMaps.keyOf_string_mk Tryz.underlying9 ht);rw[hrun];have:=hf t;unfold keyL at this;rw[this.1,xmR_inv (hv.trans (by rw[this.2];rfl))];rfl
theorem XM.look1{w:World}{b n:Nat}{f:ByteArray->Option (Nat×Int)}(h:XM w b n f)(t:ByteArray)(ht:t.size<=maxLen):(Instr.lookup 92 (.map (some b)) (.string t) false).run Tryz.prog w=.ok (xmV (f t)) w:=by
 obtain⟨D,hD,hf⟩:=h;obtain⟨v,ps,hrun,hv⟩:=hD.lookup (Maps.string_keyed Tryz.underlying9) Tryz.mapT (Tryz.zeroX w) (zd:=xmD none) (zp:=[]) rfl (Go.WideMaps.keyOf_string_mk Tryz.underlying9 ht);rw[hrun];have:=hf t;unfold keyL at this;rw[xmR_inv (hv.trans (by rw[this.2];rfl))];rfl
def exK(Os:List LObj)(k:Nat)(t:ByteArray):Option (Nat×Int):=(exO t (Os.take k) 0 0).map λx=>(x.1,x.2.2)
def exKJ(Os:List LObj)(k:Nat)(gl:List LGlob)(j:Nat)(t:ByteArray):Option (Nat×Int):=match exK Os k t with
 |some x=>some x
 |none=>exG t (gl.take j) (gBase Os k)
theorem exG_app(t:ByteArray):∀(A B:List LGlob) (n:Nat),exG t (A++B) n=match exG t A n with|some x=>some x|none=>exG t B (n+A.length)
 |[],B,n=>rfl
 |g::A,B,n=>by
  rw[List.cons_append,exG,exG];split
  ·rfl
  ·rw[exG_app t A B,List.length_cons,show n+1+A.length=n+(A.length+1) by omega]
theorem exO_app(t:ByteArray):∀(A B:List LObj) (k n:Nat),exO t (A++B) k n=match exO t A k n with|some x=>some x|none=>exO t B (k+A.length) (n+(A.map λO=>O.globs.length).sum)
 |[],B,k,n=>rfl
 |O::A,B,k,n=>by
  rw[List.cons_append,exO,exO];split
  ·rfl
  ·rw[exO_app t A B,List.length_cons,List.map_cons,List.sum_cons,show k+1+A.length=k+(A.length+1) by omega,Nat.add_assoc]
theorem exKJ_succ{Os:List LObj}{k:Nat}{gl:List LGlob}{j:Nat}(t:ByteArray)(hj:j<gl.length):exKJ Os k gl (j+1) t=match exKJ Os k gl j t with|some x=>some x|none=>if gl[j].exp && decide (gl[j].name=t) then some (gBase Os k+j,gl[j].arity) else none:=by
 unfold exKJ;cases exK Os k t with
 |some x=>rfl
 |none=>
  simp only;rw[List.take_succ_eq_append_getElem hj,exG_app,List.length_take,Nat.min_eq_left (by omega)];cases exG t (gl.take j) (gBase Os k) with
  |some x=>rfl
  |none=>simp only[exG]
theorem exKJ_end{Os:List LObj}{k:Nat}(hk:k<Os.length)(t:ByteArray):exKJ Os k Os[k].globs Os[k].globs.length t=exK Os (k+1) t:=by
 unfold exKJ;rw[List.take_length];have e:exK Os (k+1) t=(exO t (Os.take k++[Os[k]]) 0 0).map λx=>(x.1,x.2.2):=by unfold exK;rw[List.take_succ_eq_append_getElem hk]
 rw[e,exO_app];unfold exK;cases exO t (Os.take k) 0 0 with
 |some x=>rfl
 |none=>
  simp only[Option.map_none,exO,Nat.zero_add];unfold gBase;cases exG t Os[k].globs ((Os.take k).map λO=>O.globs.length).sum with
  |some x=>rfl
  |none=>rfl
theorem exK_all(Os:List LObj)(t:ByteArray):exK Os Os.length t=(expo Os t).map λx=>(x.1,x.2.2):=by unfold exK expo;rw[List.take_length]
def dpJ(Os:List LObj)(k:Nat)(gl:List LGlob)(j:Nat)(g:LGlob):Bool:=g.exp && (exKJ Os k gl j g.name).isSome
def dpB(Os:List LObj)(k:Nat)(O:LObj):Bool:=(fstF (dpJ Os k O.globs) O.globs 0).isSome
end Go.Proofs.YtahmgjjgikgpoaaGreatDoor
namespace Go.Proofs.YtahmgjjgikgpoaaGreatDoor
open Go.RowKit
theorem In_any(t:TypeId)(x:Value)(k n:Int)(w:World):
 Calls Tryz.prog 66 #[.iface t x,.int .i64 k,.int .i64 n] w λe w'=>e=.returned (.iface 103 (.agg #[.iface t x,.int .i64 k,.int .i64 n]))∧Below w.heap.size w w':=by
 go_enter Tryz.func66,Tryz.ntmps66;go_wp2;go_ret;exact⟨rfl,Below.refl _ _⟩
theorem place_nil(w:World):Calls Tryz.prog 16 #[.nilIface] w λe w'=>e=.returned (.agg #[.int .i64 0,.int .i64 0])∧Below w.heap.size w w':=by
 go_enter Tryz.func16,Tryz.ntmps16;go_wp2_with (first|(go_at_call 30;refine(as_nil _ _).mono ?_;rintro e w1 ⟨rfl,rfl⟩))
 refine bodyPost_ret (v:=.agg #[.int .i64 0,.int .i64 0]) (by simp[results,Tryz.results16,go_sem]) rfl ?_;exact⟨rfl,((Below.refl _ _).alloc (Nat.le_refl _) _).alloc (by simp) _⟩
theorem place_plain{w:World}{adr:Nat->Addr}(hS:SentAt w adr)(a:Addr):Calls Tryz.prog 16 #[errE a] w λe w'=>e=.returned (.agg #[.int .i64 0,.int .i64 0])∧Below w.heap.size w w':=by
 have HB0:Hid (∀o1 o2,Below w.heap.size w ((w.alloc o1).alloc o2)):=λo1 o2=>((Below.refl _ _).alloc (Nat.le_refl _) _).alloc (by simp) _;have HP0:Hid (∀o2,P2 ((w.alloc (.cells #[.int .i64 0,.int .i64 0] 52)).alloc o2) w.heap.size):=λo2=>⟨by simp,by simp,by simp,by simp⟩;have HE:Hid (w.cell? ⟨19,0,none⟩=some (.iface 171 (.agg #[.pointer (some ⟨25,60,none⟩)]))):=hS.et;clear hS;unfold errE;go_enter Tryz.func16,Tryz.ntmps16;go_wp2_with (first|(go_at_call 30;refine(as_miss a _ _ (cell_keep (HB0.out _ _) HE.out)).mono ?_;rintro e w1 ⟨rfl,hb1⟩;have hp:=(HP0.out _).keep hb1;obtain⟨p0,p1,p2,p3⟩:=id hp;have HP1:Hid (P2 w1 w.heap.size):=hp;have HB1:Hid (Below w.heap.size w w1):=(HB0.out _ _).trans (hb1.mono (by simp;omega));clear hp))
 obtain⟨s0,s1⟩:=HP1.out.put (.int .i64 0) (.int .i64 0);refine bodyPost_ret (v:=.agg #[.int .i64 0,.int .i64 0]) (by simp[results,Tryz.results16,go_sem,s0,s1]) rfl ?_;exact⟨rfl,(HB1.out.setCell (by simp) _).setCell (by simp) _⟩
structure Hit (w w':World) (tb:Nat) (k n:Int):Prop where
 c1:w'.cell? ⟨tb,1,none⟩=some (.int .i64 k)
 c2:w'.cell? ⟨tb,2,none⟩=some (.int .i64 n)
 old:∀b o,b<w.heap.size->b≠tb->w'.cell? ⟨b,o,none⟩=w.cell? ⟨b,o,none⟩∧w'.frozen? ⟨b,o,none⟩=w.frozen? ⟨b,o,none⟩
 below:∀B,B<=tb->B<=w.heap.size->Below B w w'
theorem as_found(x:Value)(k n:Int)(tb:Nat)(o0 o1 o2:Value)(w:World)(hg:w.cell? ⟨19,0,none⟩=some (.iface 171 (.agg #[.pointer (some ⟨25,60,none⟩)])))
 (t0:w.cell? ⟨tb,0,none⟩=some o0) (t1:w.cell? ⟨tb,1,none⟩=some o1) (t2:w.cell? ⟨tb,2,none⟩=some o2) (f0:w.frozen? ⟨tb,0,none⟩=false) (f1:w.frozen? ⟨tb,1,none⟩=false) (f2:w.frozen? ⟨tb,2,none⟩=false) (ox:x.oneCell'=true):
 Calls Tryz.prog 30 #[.iface 103 (.agg #[x,.int .i64 k,.int .i64 n]),.iface 105 (.pointer (some ⟨tb,0,none⟩))] w λev w'=>ev=.returned (.bool true)∧Hit w w' tb k n:=by
 refine(as_hit x k n tb o0 o1 o2 w hg t0 t1 t2 f0 f1 f2 ox).mono ?_;rintro e w' ⟨rfl,rfl⟩;refine⟨rfl,?_⟩;have hb3:Below w.heap.size w (asW w ⟨tb,0,none⟩):=(((Below.refl _ _).alloc (Nat.le_refl _) _).alloc (by simp) _).alloc (by simp;omega) _;have hb4:Below w.heap.size w ((asW w ⟨tb,0,none⟩).alloc (.cells #[x,.int .i64 k,.int .i64 n] 103)):=hb3.alloc hb3.size _;generalize (asW w ⟨tb,0,none⟩).alloc (.cells #[x,.int .i64 k,.int .i64 n] 103)=W at*;have ne:∀{b o c:Nat},o≠c->(⟨b,o,none⟩:Addr)≠⟨b,c,none⟩:=λh e=>h (congrArg Addr.off e);have nb:∀{b o c:Nat},b≠tb->(⟨tb,c,none⟩:Addr)≠⟨b,o,none⟩:=λh e=>h (congrArg Addr.block e).symm;refine⟨?_,?_,λb o hb hne=>⟨?_,?_⟩,λB h1 h2=>?_⟩
 ·rw[World.cell?_setCell_other _ _ _ _ (ne (by decide))];exact World.cell?_setCell_same _ _ _ (u:=o1) (by rw[World.cell?_setCell_other _ _ _ _ (ne (by decide))];exact cell_keep hb4 t1)
 ·exact World.cell?_setCell_same _ _ _ (u:=o2) (by rw[World.cell?_setCell_other _ _ _ _ (ne (by decide)),World.cell?_setCell_other _ _ _ _ (ne (by decide))];exact cell_keep hb4 t2)
 ·rw[World.cell?_setCell_other _ _ _ _ (nb hne),World.cell?_setCell_other _ _ _ _ (nb hne),World.cell?_setCell_other _ _ _ _ (nb hne)];exact(bcell hb4).1 b o hb
 ·simp only[World.frozen?_setCell];exact(bcell hb4).2 b o hb
 ·exact(((hb4.mono h2).setCell (p:=⟨tb,0,none⟩) h1 _).setCell (p:=⟨tb,1,none⟩) h1 _).setCell (p:=⟨tb,2,none⟩) h1 _
theorem place_fault{w:World}{adr:Nat->Addr}(hS:SentAt w adr)(a:Addr)(k n:Int):Calls Tryz.prog 16 #[errF a k n] w λe w'=>e=.returned (.agg #[.int .i64 k,.int .i64 n])∧Below w.heap.size w w':=by
 have HB0:Hid (∀o1 o2,Below w.heap.size w ((w.alloc o1).alloc o2)):=λo1 o2=>((Below.refl _ _).alloc (Nat.le_refl _) _).alloc (by simp) _;have HP0:Hid (∀o2,P2 ((w.alloc (.cells #[.int .i64 0,.int .i64 0] 52)).alloc o2) w.heap.size):=λo2=>⟨by simp,by simp,by simp,by simp⟩;have HE:Hid (w.cell? ⟨19,0,none⟩=some (.iface 171 (.agg #[.pointer (some ⟨25,60,none⟩)]))):=hS.et;clear hS;unfold errF;go_enter Tryz.func16,Tryz.ntmps16;go_wp2_with (first|(go_at_call 30;refine(as_found _ k n _ .nilIface (.int .i64 0) (.int .i64 0) _ (cell_keep (HB0.out _ _) HE.out) (by simp) (by simp) (by simp) (by simp) (by simp) (by simp) rfl).mono ?_;rintro e w1 ⟨rfl,hh⟩;have c1:=hh.c1;have c2:=hh.c2;have hp:P2 w1 w.heap.size:=⟨by rw[(hh.old _ 0 (by simp;omega) (by omega)).1];exact(HP0.out _).1,by rw[(hh.old _ 1 (by simp;omega) (by omega)).1];exact(HP0.out _).2.1,by rw[(hh.old _ 0 (by simp;omega) (by omega)).2];exact(HP0.out _).2.2.1,by rw[(hh.old _ 1 (by simp;omega) (by omega)).2];exact(HP0.out _).2.2.2⟩;obtain⟨p0,p1,p2,p3⟩:=id hp;have HP1:Hid (P2 w1 w.heap.size):=hp;have HB1:Hid (Below w.heap.size w w1):=(HB0.out _ _).trans (hh.below _ (by omega) (by simp;omega));clear hp hh))
 obtain⟨s0,s1⟩:=HP1.out.put (.int .i64 k) (.int .i64 n);refine bodyPost_ret (v:=.agg #[.int .i64 k,.int .i64 n]) (by simp[results,Tryz.results16,go_sem,s0,s1]) rfl ?_;exact⟨rfl,(HB1.out.setCell (by simp) _).setCell (by simp) _⟩
end Go.Proofs.YtahmgjjgikgpoaaGreatDoor
namespace Go.Proofs.YtahmgjjgikgpoaaGreatDoor
open Go.RowKit Go.Sort
theorem depths_try(nm:ByteArray)(ar:Int)(ex:Bool)(v:Value)(code:List LIns)(w:World)(hC:CodeAt w v code)(hF:Fine2 code)(ha:0<=ar∧ar<=20):
 Calls Tryz.prog 74 #[.agg #[.string nm,.int .i64 ar,.bool ex,v]] w λe w'=>DepRes code (ar+1) e w'∧Below w.heap.size w w':=by
 obtain⟨p,cap,rfl,hs1,hcell⟩:=hC.open;have hp:=hF.fine.pos;have hmost:=hF.fine.most;have hmk:=makeDeps_run code.length hmost;obtain⟨ha1,ha2⟩:=ha;have HC:Hid (∀w',Below w.heap.size w w'->CodeIn w' p code):=hcell;have HF:Hid (Fine2 code):=hF;have m0:=madeDeps_at code.length 0 hp;obtain⟨m1,m2,m3⟩:=m0;simp only[Nat.zero_mul,Nat.zero_add]at m1 m2 m3;clear hcell hC hF;go_enter Tryz.func74,Tryz.ntmps74;go_wp2;have HD:Hid _:=DepsAt.first (w.alloc (.cells #[.string nm,.int .i64 ar,.bool ex,.slice p code.length cap] 46)) code.length (ar+1) hp (by omega);have HR:Hid (RInv code (ar+1) ((List.replicate code.length (-1)).set 0 (ar+1))):=RInv.first (by omega) (by omega) (by simp) hp (λi hi=>by simp[List.getD]at hi ⊢;simp[hi]);generalize hdep0:(List.replicate code.length (-1:Int)).set 0 (ar+1)=dep0 at*;clear hdep0 m1 m2 m3;go_loopg [4] (2*(2*code.length-ranks dep0)+1) (λg s4 wr=>∃(dep:List Int) (mo:Bool),s4=.bool mo∧Hid (RInv code (ar+1) dep∧DepsAt wr (w.heap.size+1) dep∧(mo=false->∀k (hk:k<code.length),∀s∈succs code[k] k,leI (outI code[k] (dep.getD k 0)) (dep.getD s 0))∧g=2*(2*code.length-ranks dep)+(if mo then 1 else 0))∧Hid (Below w.heap.size w wr)∧wr.cell? ⟨w.heap.size,3,none⟩=some (.slice p code.length cap)∧w.heap.size+1<wr.heap.size)
 case atStart=>
  refine⟨dep0,true,rfl,⟨HR.out,?_,λh=>absurd h (by simp),rfl⟩,((Below.refl _ _).alloc (Nat.le_refl _) _).alloc (by simp) _,by simp,by simp⟩;have:=HD.out;simpa using this
 case round=>
  obtain⟨dep,mo,rfl,hI,hb,q3,hz⟩:=hrel;clear HD HR;cases mo
  ·have HL:Hid (Least code (ar+1) dep):=⟨⟨hI.out.1.len,hI.out.1.start,hI.out.2.2.1 rfl⟩,λg hg i _=>hI.out.1.below g hg i⟩;go_wp2;go_ret;refine⟨?_,hb.out⟩;exact⟨w.heap.size+1,dep,rfl,HL.out,hI.out.2.1,λi hi=>hI.out.1.ok i (by rw[hI.out.1.len];exact hi)⟩
  ·have HG:Hid (gk=2*(2*code.length-ranks dep)+1):=hI.out.2.2.2;have HI1:Hid (RInv code (ar+1) dep∧DepsAt wr (w.heap.size+1) dep):=⟨hI.out.1,hI.out.2.1⟩;clear hI;rename World=>W1
   go_wp2;go_loopw [4,5] (λs4 s5 wr=>∃(at_:Nat) (dp:List Int) (mo:Bool),at_<=code.length∧s4=.bool mo∧s5=.int .i64 at_∧Hid (RInv code (ar+1) dp∧DepsAt wr (w.heap.size+1) dp∧ranks dep<=ranks dp∧(mo=true->ranks dep<ranks dp)∧(mo=false->dp=dep∧∀k (hk:k<code.length),k<at_->∀s∈succs code[k] k,leI (outI code[k] (dep.getD k 0)) (dep.getD s 0)))∧Hid (Below w.heap.size w wr)∧wr.cell? ⟨w.heap.size,3,none⟩=some (.slice p code.length cap)∧w.heap.size+1<wr.heap.size) (λ_ s5 _=>code.length-(intOf s5).toNat)
   case atStart=>exact⟨0,dep,false,Nat.zero_le _,rfl,rfl,⟨HI1.out.1,HI1.out.2,Nat.le_refl _,λh=>absurd h (by simp),λ_=>⟨rfl,λ_ _ h=>absurd h (by omega)⟩⟩,hb,q3,hz⟩
   case round=>
    obtain⟨at_,dp,mo,hat,rfl,rfl,hI,hb,q3,hz⟩:=hrel;by_cases hlt:at_<code.length
    ·obtain⟨b,o,ap,an,ac,rfl,x0,x1,x2,hA⟩:=HC.out _ hb.out at_ hlt;have hopk:=HF.out.fine.op at_ hlt;obtain⟨m,hm⟩:=Int.eq_ofNat_of_zero_le hopk.1;have hm21:m<21:=by omega
     have hgd:=HF.out.good at_ hlt;have hgd0:=hgd;have hal:=HF.out.fine.alts at_ hlt;have hdl:=hI.out.1.len;have e0:=hI.out.2.1.c0 at_ (by omega);have e1:=hI.out.2.1.c1 at_ (by omega);have e2:=hI.out.2.1.c2 at_ (by omega);have edk:dp[at_]'(by omega)=dp.getD at_ 0:=by simp[List.getD,show at_<dp.length by omega]
     have hok:=hI.out.1.ok at_ (by omega);rw[edk]at e0 e1 e2;rw[hm]at x0 hgd;have HA:Hid (AltsAt wr (.slice ap an ac) code[at_].alts):=hA;have hia:=insG_a m hm21 _ _ hgd;have hat2:(at_:Int)<(code.length:Int):=by omega
     have hat1:(0:Int)<=(at_:Int):=by omega
     have hbs:=hb.out.size;have lb:b<wr.heap.size:=block_lt_of_cell x0;have HOUT:Hid (∀d,d≠-1->d≠-2->outI code[at_] d=if fitsV m code[at_].a d then behV m code[at_].a d else -1):=by
      intro d h1 h2;have em:code[at_].op.toNat=m:=by rw[hm];simp
      simp only[outI,outD,em];rw[if_neg h1,if_neg h2];split<;>rfl
     have HEM:Hid (∀d,0<=d->d<=100000->fitsV m code[at_].a d=!wrongR m code[at_].a d∧(wrongR m code[at_].a d=false->behV m code[at_].a d=d+moreR m code[at_].a∧0<=d+moreR m code[at_].a∧d+moreR m code[at_].a<=1000)):=λd h1 h2=>eff_math m hm21 _ d _ hgd h1 h2;have HSU:Hid (succI m code[at_].a code[at_].alts at_=(succs code[at_] at_).map λs:Nat=>(s:Int)):=by
      rw[hm]at hgd0;exact succI_map m code[at_] at_ hm21 hm hgd0
     have HIA:Hid (m≠0->0<=code[at_].a∧code[at_].a<=65535):=hia.1;clear hA hopk hgd hgd0 edk hia;generalize hdd:dp.getD at_ 0=d at*;have HDD:Hid (dp.getD at_ 0=d):=hdd;have hdv:0<=dvI d∧dvI d<=100000:=by unfold dvI;unfold okd at hok;split<;>omega
     have HW:Hid (∀w,Calls Tryz.prog 75 #[.agg #[.int .i64 m,.int .i64 code[at_].a,.slice ap an ac],.int .i64 (dvI d)] w λe w'=>e=.returned (.bool (wrongR m code[at_].a (dvI d)))∧Below w.heap.size w w'):=λw=>wrong_any m hm21 _ _ ap an ac w HIA.out hdv;have HEF:Hid (∀w,Calls Tryz.prog 98 #[.agg #[.int .i64 m,.int .i64 code[at_].a,.slice ap an ac]] w λe w'=>e=.returned (.tuple #[.int .i64 (needR m code[at_].a),.int .i64 (moreR m code[at_].a)])∧Below w.heap.size w w'):=λw=>effect_any m hm21 _ ap an ac w HIA.out;have HNX:Hid (∀w',Below wr.heap.size wr w'->Calls Tryz.prog 73 #[.agg #[.int .i64 m,.int .i64 code[at_].a,.slice ap an ac],.int .i64 at_] w' λe w''=>(∃v,e=.returned v∧OwnInts w'' w'.heap.size v (succI m code[at_].a code[at_].alts at_))∧Below w'.heap.size w' w''):=λw' hbw=>next_any m _ code[at_].alts _ at_ w' (HA.out.keep hbw) hal (by omega);have hml:=moreR_le m code[at_].a hm21 HIA.out;rename World=>W2
     have HDP:Hid (DepsAt W2 (w.heap.size+1) dp):=hI.out.2.1;have g0:=cell_regrown (alloc_cell W2 #[.int .i64 m,.int .i64 code[at_].a,.slice ap an ac] 43 0 _ rfl);have g1:=cell_regrown (alloc_cell W2 #[.int .i64 m,.int .i64 code[at_].a,.slice ap an ac] 43 1 _ rfl);have g2:=cell_regrown (alloc_cell W2 #[.int .i64 m,.int .i64 code[at_].a,.slice ap an ac] 43 2 _ rfl);have g3:=cell_regrown (alloc_old W2 (.cells #[.int .i64 m,.int .i64 code[at_].a,.slice ap an ac] 43) _ _ _ e2);have hk3:(at_:Int)<(dp.length:Int):=by omega
     clear hdd HA hal hok hdv hm;generalize hca:code[at_].a=a at*;clear hca;go_wp2;refine wp_region_quiet_below (by kernel_rfl) (by kernel_rfl) ?_;repeat (first|go_big_quiet_step (first|(go_at_call 75;exact Calls.regrown_of (HW.out _)))|quiet_step (first|(go_at_call 75;exact Calls.regrown_of (HW.out _))))
     refine wpQuiet_nil ?_;intro _ hw';obtain⟨⟨dq,osq⟩,hw''⟩:=hw';subst hw'';have hb3:Below W2.heap.size W2 (grow (redrawn (W2.alloc (.cells #[.int .i64 m,.int .i64 a,.slice ap an ac] 43)) dq) osq):=((Below.refl _ _).alloc (Nat.le_refl _) _).trans ((below_regrown _ dq osq).mono (by simp));have r0:=g0 dq osq;have r1:=g1 dq osq;have r2:=g2 dq osq;have hz3:W2.heap.size<(grow (redrawn (W2.alloc (.cells #[.int .i64 m,.int .i64 a,.slice ap an ac] 43)) dq) osq).heap.size:=by
      have:=(below_regrown (W2.alloc (.cells #[.int .i64 m,.int .i64 a,.slice ap an ac] 43)) dq osq).size;simp at this ⊢;omega
     generalize grow (redrawn (W2.alloc (.cells #[.int .i64 m,.int .i64 a,.slice ap an ac] 43)) dq) osq=W3 at*;clear g0 g1 g2 g3;have e0':=cell_keep hb3 e0;have e1':=cell_keep hb3 e1;have e2':=cell_keep hb3 e2;have q3':=cell_keep hb3 q3;clear e0 e1 e2 q3 x0 x1 x2;simp at r0 r1 r2;have HCONT:Hid (outI code[at_] d=-1->(mo=false->dp=dep∧∀k (hk:k<code.length),k<at_+1->∀s∈succs code[k] k,leI (outI code[k] (dep.getD k 0)) (dep.getD s 0))):=by
      intro h0 h;obtain⟨f1,f2⟩:=hI.out.2.2.2.2 h;refine⟨f1,λk hk hka s hs=>?_⟩;by_cases e:k=at_
      ·subst e;rw[<-f1,HDD.out,h0];exact leI.bot _
      ·exact f2 k hk (by omega) s hs
     have HB3:Hid (Below w.heap.size w W3):=hb.out.trans (hb3.mono hbs);have hz4:w.heap.size+1<W3.heap.size:=by have:=hb3.size;omega
     by_cases d1:d=-1
     ·subst d1;go_wp2;exact⟨⟨at_+1,dp,mo,by omega,rfl,by go_num,⟨hI.out.1,HDP.out.keep hb3,hI.out.2.2.1,hI.out.2.2.2.1,HCONT.out (by simp[outI])⟩,HB3,q3',hz4⟩,by simp[intOf];omega⟩
     ·have t1:(d !=-1)=true:=by simp[d1]
      by_cases hgo:d=-2∨wrongR m a d=false
      ·have hokd:=hI.out.1.ok at_ (by omega);rw[HDD.out]at hokd;have hval:∃v,outI code[at_] d=v∧v≠-1∧okd v∧(d=-2∧v=-2∨(d≠-2∧0<=d∧d<=1000∧wrongR m a d=false∧v=d+moreR m a∧0<=v∧v<=1000)):=by
        by_cases h2:d=-2
        ·exact⟨-2,by rw[h2];simp[outI,outD],by omega,Or.inr (Or.inl rfl),Or.inl ⟨h2,rfl⟩⟩
        ·have hw:wrongR m a d=false:=by rcases hgo with h|h;(exact absurd h h2);exact h
         have h3:0<=d∧d<=1000:=by unfold okd at hokd;omega
         obtain⟨f1,f2⟩:=HEM.out d h3.1 (by omega);obtain⟨f3,f4,f5⟩:=f2 hw;refine⟨d+moreR m a,?_,by omega,Or.inr (Or.inr ⟨f4,f5⟩),Or.inr ⟨h2,h3.1,h3.2,hw,rfl,f4,f5⟩⟩;rw[HOUT.out d d1 h2,f1,hw];simpa using f3
       obtain⟨v,hv0,hv1,hv2,hv3⟩:=hval;have HV:Hid (outI code[at_] d=v∧v≠-1∧okd v∧(d=-2∧v=-2∨(d≠-2∧0<=d∧d<=1000∧wrongR m a d=false∧v=d+moreR m a∧0<=v∧v<=1000))):=⟨hv0,hv1,hv2,hv3⟩;have ttest:(d==-2)=true∨(d==-2)=false∧wrongR m a (dvI d)=false:=by
        rcases hv3 with⟨h,-⟩|⟨h,h0,-,hw,-⟩
        ·left;simp[h]
        ·right;refine⟨by simp[h],?_⟩
         have:dvI d=d:=by unfold dvI;rw[if_neg (by omega)]
         rw[this];exact hw
       clear hv0 hv1 hv2 hv3 hokd hgo;have htail:∀(Q:Prop),((d==-2)=true->Q)->((d==-2)=false->wrongR m a (dvI d)=false->Q)->Q:=λQ h1 h2=>by
        rcases ttest with h|⟨h,h'⟩
        ·exact h1 h
        ·exact h2 h h'
       have HTT:Hid ((d==-2)=true∨(d==-2)=false∧wrongR m a (dvI d)=false):=ttest;clear htail ttest;generalize hmr:moreR m a=mr at*;have HMR:Hid (moreR m a=mr):=hmr;clear hmr;generalize needR m a=nd at*;have hbt:=HTT.out;generalize (d==-2)=bt at*;clear HTT;rcases hbt with rfl|⟨rfl,t3⟩;all_goals
        go_wp2_with (first|(go_at_call 98;refine(HEF.out _).mono ?_;rintro e w4 ⟨rfl,hb4⟩;have hz5:W3.heap.size<=w4.heap.size:=hb4.size;have r0':=cell_keep hb4 r0;have r1':=cell_keep hb4 r1;have r2':=cell_keep hb4 r2)|(go_at_call 73;refine(HNX.out _ (hb3.trans (hb4.mono hb3.size))).mono ?_;rintro e w5 ⟨⟨v10,rfl,ho⟩,hb5⟩))
        have hb35:Below W3.heap.size W3 w5:=hb4.trans (hb5.mono hb4.size);have HB5:Hid (Below w.heap.size w w5):=HB3.out.trans (hb35.mono (by have:=HB3.out.size;omega));have HD5:Hid (DepsAt w5 (w.heap.size+1) dp):=(HDP.out.keep hb3).keep hb35;have q35:=cell_keep hb35 q3';have hz6:w.heap.size+1<w5.heap.size:=by have:=hb35.size;omega
        have hlo:w.heap.size+1<w4.heap.size:=by omega
        rw[HSU.out]at ho;obtain⟨q,qc,ev,hin⟩:=ho.open;subst ev;have HIN:Hid (IntsIn w5 w4.heap.size q ((succs code[at_] at_).map λs:Nat=>(s:Int))):=hin;have HSN:Hid (∀s∈succs code[at_] at_,s<code.length):=HF.out.fine.next at_ hlt;have HST:Hid (RInv code (ar+1) dp∧ranks dep<=ranks dp∧(mo=true->ranks dep<ranks dp)∧(mo=false->dp=dep∧∀k (hk:k<code.length),k<at_->∀s∈succs code[k] k,leI (outI code[k] (dep.getD k 0)) (dep.getD s 0))):=⟨hI.out.1,hI.out.2.2.1,hI.out.2.2.2.1,hI.out.2.2.2.2⟩;clear hI hin ho HNX HEF HW HDP HB3 HSU HOUT HEM HIA r0 r1 r2 r0' r1' r2' e0' e1' e2' q3' hb3 hb4 hb5 hb35 hz3 hz4 hz5 hbs hb hz;have hsll:(succs code[at_] at_).length<=256:=succs_len (HF.out.fine.alts at_ hlt);generalize hsl:succs code[at_] at_=sl at*;rw[List.length_map];have HSL:Hid (succs code[at_] at_=sl):=hsl;clear hsl;have HM5:Hid (Mem6 w w5 w4.heap.size q sl dp (.slice (some ⟨b,o,none⟩) code.length cap)):=⟨HD5.out,HIN.out,HB5.out,q35,hz6⟩;clear HD5 HIN HB5 q35 hz6;go_loopw [4,11] (λs4 s11 wr=>∃(k:Nat) (dq:List Int) (m2:Bool),k<=sl.length∧s4=.bool m2∧s11=.int .i64 k∧Hid (Row3 code (ar+1) dep dp at_ d v sl k dq m2)∧Hid (Mem6 w wr w4.heap.size q sl dq (.slice (some ⟨b,o,none⟩) code.length cap))) (λ_ s11 _=>sl.length-(intOf s11).toNat)
        case atStart=>exact⟨0,dp,mo,Nat.zero_le _,rfl,rfl,⟨HST.out.1,HST.out.2.1,HST.out.2.2.1,λh=>⟨(HST.out.2.2.2 h).1,(HST.out.2.2.2 h).1,(HST.out.2.2.2 h).2,λ_ _ h=>absurd h (by omega)⟩,Or.inr HDD.out⟩,HM5⟩
        case round=>
         obtain⟨k,dq,m2,hk,rfl,rfl,hR,hM⟩:=hrel;clear HM5 HST;by_cases hkl:k<sl.length
         ·obtain⟨tb,eq2,hlo2,htb,hcell⟩:=hM.out.I k (by simpa using hkl);subst eq2;simp only[List.getElem_map]at hcell;have hs:=HSN.out _ (List.getElem_mem hkl);have hql:=hR.out.inv.len;have eds:dq[sl[k]]'(by omega)=dq.getD sl[k] 0:=by simp[List.getD,show sl[k]<dq.length by omega]
          have eda:dq[at_]'(by omega)=dq.getD at_ 0:=by simp[List.getD,show at_<dq.length by omega]
          have y0:=hM.out.D.c0 sl[k] (by omega);have y1:=hM.out.D.c1 sl[k] (by omega);have y2:=hM.out.D.c2 sl[k] (by omega);have z1:=hM.out.D.c1 at_ (by omega);have z2:=hM.out.D.c2 at_ (by omega);have hfr:=hM.out.D.fr;have hz:=hM.out.z;have u0:=hfr (sl[k]*3) (by omega);have u1:=hfr (sl[k]*3+1) (by omega);have u2:=hfr (sl[k]*3+2) (by omega);rw[eds]at y0 y1 y2;rw[eda]at z1 z2;obtain⟨v',hN⟩:=hR.out.now hlt mr (by
           obtain⟨f1,f2,f3,f4⟩:=HV.out;refine⟨f1,f2,f3,?_⟩;rcases f4 with f4|⟨g1,g2,g3,-,g4,g5,g6⟩
           ·exact Or.inl f4
           ·exact Or.inr ⟨g1,g2,g3,g4,g5,g6⟩)
          have hvv:d=-2->v=-2:=by
           intro h;rcases HV.out.2.2.2 with⟨-,h2⟩|⟨h2,-⟩
           ·exact h2
           ·exact absurd h h2
          have HSAME:Hid (joinI (dq.getD sl[k] 0) v'=dq.getD sl[k] 0->Row3 code (ar+1) dep dp at_ d v sl (k+1) dq m2):=λh=>hR.out.same hN HDD.out hvv hkl h;have HNEW:Hid (joinI (dq.getD sl[k] 0) v'≠dq.getD sl[k] 0->Row3 code (ar+1) dep dp at_ d v sl (k+1) (dq.set sl[k] (joinI (dq.getD sl[k] 0) v')) true):=λh=>hR.out.new hlt HSL.out HSN.out hN hkl d1 h;have HM2:Hid _:=hM.out.two hlo sl[k] (by omega);have HM1:Hid _:=hM.out.one hlo sl[k] (by omega);have hokx:=hR.out.inv.ok sl[k] (by omega);have halt:=hN.alt;have hs1':(0:Int)<=((sl[k]:Nat):Int):=by omega
          have hs2':((sl[k]:Nat):Int)<(code.length:Int):=by omega
          have nE:w.heap.size+1≠tb:=by omega
          have hk256:k+1<=256:=by omega
          have HK:Hid (k+1<=sl.length∧sl.length-(k+1)<sl.length-k):=⟨by omega,by omega⟩;rename World=>W6
          have nE1:w.heap.size+1≠W6.heap.size:=by omega
          have nE2:w.heap.size≠W6.heap.size:=by omega
          have l1:w.heap.size<W6.heap.size:=by omega
          have l2:w.heap.size+1<W6.heap.size+1:=by omega
          have zz2:=λo1 o2=>cell_keep (((Below.refl W6.heap.size W6).alloc (Nat.le_refl _) o1).alloc (by simp) o2) z2;have nT1:tb≠W6.heap.size:=by omega
          have nT2:tb≠W6.heap.size+1:=by omega
          have dm1:dvI (-1)=0:=rfl;have dm2:dvI (-2)=0:=rfl;clear hN hfr eds eda hql hvv;generalize sl[k]=s at*;generalize dq.getD s 0=dx at*;generalize dq.getD at_ 0=da at*;have hdx:0<=dx->(dx !=-1)=true∧(dx==-2)=false∧dvI dx=dx:=λh=>⟨by rw[bne_iff_ne];omega,by rw[beq_eq_false_iff_ne];omega,by unfold dvI;rw[if_neg (by omega)]⟩;rcases halt with⟨rfl,rfl⟩|⟨-,h2,h3,h4,rfl,h5,h6,-⟩
          ·rcases hokx with rfl|rfl|⟨k1,k2⟩
           ·have HN2:Hid (Row3 code (ar+1) dep dp at_ d v sl (k+1) (dq.set s (-2)) true):=HNEW.out (by decide);clear HNEW HSAME HM1 hdx;as_aux_lemma=>
             go_wp2;go_region
             go_wp2;go_region
             go_wp2;exact⟨⟨k+1,_,true,HK.out.1,rfl,by first|go_num|(rw[wrap_next hk256];rfl),HN2,HM2.out.keep (by repeat' (first|(with_reducible exact Below.refl _ _)|(with_reducible refine Below.drew ?_)|(with_reducible refine Below.alloc ?_ ?_ _)|(with_reducible exact Nat.le_refl _)|(simp;done)|(simp;omega)))⟩,by have:=HK.out.2;simp[intOf];omega⟩
           ·have HN2:Hid (Row3 code (ar+1) dep dp at_ d v sl (k+1) dq m2):=HSAME.out (by decide);clear HNEW HSAME HM1 HM2 hdx;as_aux_lemma=>
             go_wp2;go_region
             go_wp2;exact⟨⟨k+1,_,m2,HK.out.1,rfl,by first|go_num|(rw[wrap_next hk256];rfl),HN2,hM.out.keep (by repeat' (first|(with_reducible exact Below.refl _ _)|(with_reducible refine Below.drew ?_)|(with_reducible refine Below.alloc ?_ ?_ _)|(with_reducible exact Nat.le_refl _)|(simp;done)|(simp;omega)))⟩,by have:=HK.out.2;simp[intOf];omega⟩
           ·have HN2:Hid (Row3 code (ar+1) dep dp at_ d v sl (k+1) (dq.set s (-2)) true):=by
             have e:joinI dx (-2)=-2:=by unfold joinI;rw[if_neg (by omega),if_pos (by omega)]
             have:=HNEW.out (by rw[e];omega);rw[e]at this;exact this
            obtain⟨t5,t6,t7⟩:=hdx k1;rw[t5]at y0;rw[t6]at y1;rw[t7]at y2;clear HNEW HSAME HM1;as_aux_lemma=>
             go_wp2;go_region
             go_wp2;go_region
             go_wp2;exact⟨⟨k+1,_,true,HK.out.1,rfl,by first|go_num|(rw[wrap_next hk256];rfl),HN2,HM2.out.keep (by repeat' (first|(with_reducible exact Below.refl _ _)|(with_reducible refine Below.drew ?_)|(with_reducible refine Below.alloc ?_ ?_ _)|(with_reducible exact Nat.le_refl _)|(simp;done)|(simp;omega)))⟩,by have:=HK.out.2;simp[intOf];omega⟩
          ·have t5:(da==-2)=false:=by rw[beq_eq_false_iff_ne];omega
           have t6:dvI da=da:=by unfold dvI;rw[if_neg (by omega)]
           rw[t5]at z1;rw[t6]at z2;simp only[t6]at zz2;rcases hokx with rfl|rfl|⟨k1,k2⟩
           ·have HN2:Hid (Row3 code (ar+1) dep dp at_ d v sl (k+1) (dq.set s (da+mr)) true):=by
             have e:joinI (-1) (da+mr)=da+mr:=by unfold joinI;rw[if_pos rfl]
             have:=HNEW.out (by rw[e];omega);rw[e]at this;exact this
            have HMM:=hid (HM1.out (da+mr) h5);clear HNEW HSAME HM1 HM2 hdx;as_aux_lemma=>
             go_wp2;go_region
             go_wp2;go_region
             go_wp2;exact⟨⟨k+1,_,true,HK.out.1,rfl,by first|go_num|(rw[wrap_next hk256];rfl),HN2,HMM.out.keep (by repeat' (first|(with_reducible exact Below.refl _ _)|(with_reducible refine Below.drew ?_)|(with_reducible refine Below.alloc ?_ ?_ _)|(with_reducible exact Nat.le_refl _)|(simp;done)|(simp;omega)))⟩,by have:=HK.out.2;simp[intOf];omega⟩
           ·have HN2:Hid (Row3 code (ar+1) dep dp at_ d v sl (k+1) dq m2):=HSAME.out (by unfold joinI;rw[if_neg (by omega),if_pos (by omega)]);clear HNEW HSAME HM1 HM2 hdx;as_aux_lemma=>
             go_wp2;go_region
             go_wp2;exact⟨⟨k+1,_,m2,HK.out.1,rfl,by first|go_num|(rw[wrap_next hk256];rfl),HN2,hM.out.keep (by repeat' (first|(with_reducible exact Below.refl _ _)|(with_reducible refine Below.drew ?_)|(with_reducible refine Below.alloc ?_ ?_ _)|(with_reducible exact Nat.le_refl _)|(simp;done)|(simp;omega)))⟩,by have:=HK.out.2;simp[intOf];omega⟩
           ·obtain⟨t7,t8,t9⟩:=hdx k1;rw[t7]at y0;rw[t8]at y1;rw[t9]at y2;by_cases hv:dx=da+mr
            ·have HN2:Hid (Row3 code (ar+1) dep dp at_ d v sl (k+1) dq m2):=HSAME.out (by unfold joinI;rw[if_neg (by omega),if_neg (by omega)];exact hv.symm);clear HNEW HSAME HM1 HM2 hdx;subst hv;as_aux_lemma=>
              go_wp2;go_region
              go_wp2;exact⟨⟨k+1,_,m2,HK.out.1,rfl,by first|go_num|(rw[wrap_next hk256];rfl),HN2,hM.out.keep (by repeat' (first|(with_reducible exact Below.refl _ _)|(with_reducible refine Below.drew ?_)|(with_reducible refine Below.alloc ?_ ?_ _)|(with_reducible exact Nat.le_refl _)|(simp;done)|(simp;omega)))⟩,by have:=HK.out.2;simp[intOf];omega⟩
            ·have HN2:Hid (Row3 code (ar+1) dep dp at_ d v sl (k+1) (dq.set s (-2)) true):=by
              have e:joinI dx (da+mr)=-2:=by unfold joinI;rw[if_neg (by omega),if_pos (Or.inr (Or.inr hv))]
              have:=HNEW.out (by rw[e];omega);rw[e]at this;exact this
             have hv1:(dx==da+mr)=false:=by rw[beq_eq_false_iff_ne];exact hv
             have hv2:(dx !=da+mr)=true:=by rw[bne_iff_ne];exact hv
             clear HNEW HSAME HM1 hdx;as_aux_lemma=>
              go_wp2;go_region
              go_wp2;go_region
              go_wp2;exact⟨⟨k+1,_,true,HK.out.1,rfl,by first|go_num|(rw[wrap_next hk256];rfl),HN2,HM2.out.keep (by repeat' (first|(with_reducible exact Below.refl _ _)|(with_reducible refine Below.drew ?_)|(with_reducible refine Below.alloc ?_ ?_ _)|(with_reducible exact Nat.le_refl _)|(simp;done)|(simp;omega)))⟩,by have:=HK.out.2;simp[intOf];omega⟩
         ·have HLOW:Hid (m2=false->dq=dep∧∀k' (hk':k'<code.length),k'<at_+1->∀s∈succs code[k'] k',leI (outI code[k'] (dep.getD k' 0)) (dep.getD s 0)):=by
           intro h;obtain⟨a1,a2,a3,a4⟩:=hR.out.low h;refine⟨a1,λk' hk' hka s hs=>?_⟩;by_cases e:k'=at_
           ·subst e;rw[HSL.out]at hs;obtain⟨j,hj,rfl⟩:=List.getElem_of_mem hs;have e2:dep.getD k' 0=d:=by rw[<-a2];exact HDD.out
            rw[e2,HV.out.1];exact a4 j hj (by omega)
           ·exact a3 k' hk' (by omega) s hs
          have HK:Hid (at_+1<=code.length∧code.length-(at_+1)<code.length-at_):=⟨by omega,by omega⟩;as_aux_lemma=>
           go_wp2;exact⟨⟨at_+1,dq,m2,HK.out.1,rfl,by go_num,⟨hR.out.inv,hM.out.D,hR.out.rank,hR.out.up,HLOW.out⟩,hM.out.B,hM.out.c,hM.out.z⟩,by have:=HK.out.2;simp[intOf];omega⟩
      ·have hgo2:d≠-2∧wrongR m a d=true:=by
        refine⟨λh=>hgo (Or.inl h),?_⟩;cases h:wrongR m a d with
        |true=>rfl
        |false=>exact absurd (Or.inr h) hgo
       have t2:(d==-2)=false:=by simp[hgo2.1]
       have edv:dvI d=d:=by unfold dvI;rw[if_neg (by omega)]
       have HNO:Hid (outI code[at_] d=-1):=by
        show _=_;have hokd:0<=d∧d<=100000:=by have:=hI.out.1.ok at_ (by omega);rw[HDD.out]at this;unfold okd at this;omega
        rw[HOUT.out d d1 hgo2.1,(HEM.out d hokd.1 hokd.2).1,hgo2.2];rfl
       have t3:wrongR m a (dvI d)=true:=by rw[edv];exact hgo2.2
       clear hgo2 hgo edv d1;go_wp2;exact⟨⟨at_+1,dp,mo,by omega,rfl,by go_num,⟨hI.out.1,HDP.out.keep hb3,hI.out.2.2.1,hI.out.2.2.2.1,HCONT.out HNO.out⟩,HB3,q3',hz4⟩,by simp[intOf];omega⟩
    ·go_wp2;go_roundg(2*(2*code.length-ranks dp)+(if mo then 1 else 0))
     case measure=>
      rw[HG.out];have h1:=hI.out.2.2.1;have h2:=ranks_le dp;have h3:=hI.out.1.len;cases mo
      ·rw[(hI.out.2.2.2.2 rfl).1];simp
      ·have h4:=hI.out.2.2.2.1 rfl;simp;omega
     case rel=>
      refine⟨dp,mo,rfl,⟨hI.out.1,hI.out.2.1,λh=>?_,rfl⟩,hb,q3,hz⟩;obtain⟨h1,h2⟩:=hI.out.2.2.2.2 h;rw[h1];exact λk hk=>h2 k hk (by omega)
theorem global_any:GlobalOk:=λnm ar ex v code most w hC hG ha=>global_try (λnm ar ex v code w h1 h2 h3=>depths_try nm ar ex v code w h1 h2 h3) nm ar ex v code most w hC hG ha
theorem goodGs_of(imps:List LImp):∀(l:List LGlob) (last:ByteArray),globsFrom imps last l=true->GoodGs l
 |[],_,_=>λk hk=>absurd hk (by simp)
 |g::r,last,h=>by
  simp only[globsFrom,Bool.and_eq_true]at h;obtain⟨⟨⟨⟨⟨_,_⟩,_⟩,h4⟩,h5⟩,h6⟩:=h;intro k hk;cases k with
  |zero=>
   refine⟨h5,?_⟩;simp[arB]at h4;exact h4
  |succ j=>exact goodGs_of imps r _ h6 j (by simpa using hk)
noncomputable def docS(O:LObj):Value:=if valsG O then resS (sBad (O.imps.length+O.globs.length) O.globs 0) else .tuple #[.int .i64 15,.agg #[.int .i64 0,.int .i64 0]]
theorem refSounds_any(O:LObj)(v:Value)(w:World)(hO:ObjAt w v O):
 Calls Tryz.prog 17 #[v] w λe w'=>e=.returned (docS O)∧Below w.heap.size w w':=by
 obtain⟨iv,gv,rfl,hsz,hI,hG⟩:=id hO;obtain⟨ip,ic,rfl,hi1,-⟩:=hI.open;obtain⟨p,cap,rfl,hs1,-⟩:=hG.open;have HSH:Hid (∀w',Below w.heap.size w w'->Calls Tryz.prog 31 #[.agg #[.string O.name,.slice ip O.imps.length ic,.slice p O.globs.length cap]] w' λe w''=>e=.returned (.bool (valsG O))∧Below w'.heap.size w' w''):=λw' hb=>Shaped_any O _ w' (hO.keep hb);have HSO:Hid (valsG O=true->∀w',Below w.heap.size w w'->Calls Tryz.prog 32 #[.agg #[.string O.name,.slice ip O.imps.length ic,.slice p O.globs.length cap]] w' λe w''=>e=.returned (docS O)∧Below w'.heap.size w' w''):=by
  intro hv w' hb;have hg:GoodGs O.globs:=by
   simp only[valsG,Bool.and_eq_true]at hv;exact goodGs_of _ _ _ hv.2
  have:=refSound_try global_any O.name _ _ O.imps O.globs w' (hI.keep hb) (hG.keep hb) hg;unfold docS;rw[if_pos hv];exact this
 have HBAD:Hid (valsG O=false->docS O=.tuple #[.int .i64 15,.agg #[.int .i64 0,.int .i64 0]]):=by intro h;unfold docS;rw[h];rfl
 obtain⟨x,y,z,hD⟩:∃x y z:Int,docS O=.tuple #[.int .i64 x,.agg #[.int .i64 y,.int .i64 z]]:=by
  unfold docS resS;split
  ·split
   ·exact⟨_,_,_,rfl⟩
   ·exact⟨_,_,_,rfl⟩
  ·exact⟨_,_,_,rfl⟩
 have hb0:∀o1 o2,Below w.heap.size w ((w.alloc o1).alloc o2):=λo1 o2=>((Below.refl _ _).alloc (Nat.le_refl _) _).alloc (by simp) _;have HB0:Hid (∀o1 o2,Below w.heap.size w ((w.alloc o1).alloc o2)):=hb0;have HP0:Hid (∀o1,P2 ((w.alloc o1).alloc (.cells #[.int .i64 0,.int .i64 0] 52)) (w.heap.size+1)):=λo1=>⟨by simp,by simp,by simp,by simp⟩;clear hO hI hG hb0;have HSO1:Hid (valsG O=true->∀w',Below w.heap.size w w'->Calls Tryz.prog 32 #[.agg #[.string O.name,.slice ip O.imps.length ic,.slice p O.globs.length cap]] w' λe w''=>e=.returned (.tuple #[.int .i64 x,.agg #[.int .i64 y,.int .i64 z]])∧Below w'.heap.size w' w''):=by
  intro hv;have:=HSO.out hv;rw[hD]at this;exact this
 have HBAD1:Hid (valsG O=false->Value.tuple #[.int .i64 x,.agg #[.int .i64 y,.int .i64 z]]=.tuple #[.int .i64 15,.agg #[.int .i64 0,.int .i64 0]]):=by
  intro hv;rw[<-hD];exact HBAD.out hv
 rw[hD];clear hD HSO HBAD;generalize valsG O=V at*;generalize O.imps.length=n1 at*;generalize O.globs.length=n2 at*;cases V
 ·have HBAD2:=hid (HBAD1.out rfl);clear HBAD1 HSO1;go_enter Tryz.func17,Tryz.ntmps17;go_wp2_with (first|(go_at_call 31;refine(HSH.out _ (HB0.out _ _)).mono ?_;rintro e w1 ⟨rfl,hb1⟩;have hp:=(HP0.out _).keep hb1;obtain⟨p0,p1,p2,p3⟩:=id hp;have HP1:Hid (P2 w1 (w.heap.size+1)):=hp;have HB1:Hid (Below w.heap.size w w1):=(HB0.out _ _).trans (hb1.mono (by simp;omega));clear hp))
  obtain⟨s0,s1⟩:=HP1.out.put (.int .i64 0) (.int .i64 0);refine bodyPost_ret (v:=.tuple #[.int .i64 15,.agg #[.int .i64 0,.int .i64 0]]) (by simp[results,Tryz.results17,go_sem,s0,s1]) rfl ?_;exact⟨ret_val HBAD2.out.symm,(HB1.out.setCell (by simp) _).setCell (by simp) _⟩
 ·have HSO2:=hid (HSO1.out rfl);clear HBAD1 HSO1;go_enter Tryz.func17,Tryz.ntmps17;go_wp2_with (first|(go_at_call 31;refine(HSH.out _ (HB0.out _ _)).mono ?_;rintro e w1 ⟨rfl,hb1⟩;have hp:=(HP0.out _).keep hb1;have HP1:Hid (P2 w1 (w.heap.size+1)):=hp;have HB1:Hid (Below w.heap.size w w1):=(HB0.out _ _).trans (hb1.mono (by simp;omega));have y0:=cell_keep hb1 (alloc_old _ _ _ _ _ (alloc_cell w _ _ 0 _ rfl));have y1:=cell_keep hb1 (alloc_old _ _ _ _ _ (alloc_cell w _ _ 1 _ rfl));have y2:=cell_keep hb1 (alloc_old _ _ _ _ _ (alloc_cell w _ _ 2 _ rfl));clear hp)|(go_at_call 32;refine(HSO2.out _ HB1.out).mono ?_;rintro e w2 ⟨rfl,hb2⟩;have hp:=HP1.out.keep hb2;obtain⟨p0,p1,p2,p3⟩:=id hp;have HP2:Hid (P2 w2 (w.heap.size+1)):=hp;have HB2:Hid (Below w.heap.size w w2):=HB1.out.trans (hb2.mono HB1.out.size);clear hp))
  obtain⟨s0,s1⟩:=HP2.out.put (.int .i64 y) (.int .i64 z);refine bodyPost_ret (v:=.tuple #[.int .i64 x,.agg #[.int .i64 y,.int .i64 z]]) (by simp[results,Tryz.results17,go_sem,s0,s1]) rfl ?_;exact⟨rfl,(HB2.out.setCell (by simp) _).setCell (by simp) _⟩
def errS(adr:Nat->Addr):Option (Nat×Nat×Nat)->Value
 |some (e,k,i)=>errF (adr (e+1)) (k:Int) (i:Int)
 |none=>.nilIface
theorem gBad_le{code:List LIns}{d0 most:Int}{e i:Nat}(h:gBad code d0 most=some (e,i)):e<=2:=by
 unfold gBad at h;split at h
 ·simp at h;omega
 ·split at h
  ·simp at h;omega
  ·split at h
   ·simp at h;omega
   ·split at h
    ·simp at h;omega
    ·cases h
def Looks(code:List LIns)(d0 most:Int)(r:Option (Nat×Nat)):Prop:=
 (∃k,firstBad (badIdx most) code=some k∧r=some (0,k))∨
 (firstBad (badIdx most) code=none∧((∃k:Nat,wildJ code=.tuple #[.int .i64 (k:Int),.bool true]∧r=some (1,k))∨
  (∃k:Int,wildJ code=.tuple #[.int .i64 k,.bool false]∧Fine code∧((∃k,firstBad (badD (depOf code d0)) code=some k∧r=some (2,k))∨(firstBad (badD (depOf code d0)) code=none∧r=none)))))
theorem looks_of{code:List LIns}(d0 most:Int)(hg:codeG code=true):Looks code d0 most (gBad code d0 most):=by
 cases h1:firstBad (badIdx most) code with
 |some k=>exact Or.inl ⟨k,h1,gBad_idx h1⟩
 |none=>
  refine Or.inr ⟨h1,?_⟩;have hw:=wildJ_eq hg;by_cases h0:code.length=0
  ·rw[if_pos h0]at hw;exact Or.inl ⟨0,hw,gBad_empty h1 h0⟩
  ·rw[if_neg h0]at hw;cases h2:firstBad (badNext code.length) code with
   |some k=>
    rw[h2]at hw;exact Or.inl ⟨k,hw,gBad_jump h1 h0 h2⟩
   |none=>
    rw[h2]at hw;refine Or.inr ⟨_,hw,(fine_of hg h0 h2).fine,?_⟩;cases h3:firstBad (badD (depOf code d0)) code with
    |some k=>exact Or.inl ⟨k,rfl,by unfold gBad;rw[h1];simp only;rw[if_neg h0,h2];simp only;rw[h3]⟩
    |none=>exact Or.inr ⟨rfl,by unfold gBad;rw[h1];simp only;rw[if_neg h0,h2];simp only;rw[h3]⟩
theorem objSound_any(adr:Nat->Addr)(nm:ByteArray)(iv gv:Value)(imps:List LImp)(globs:List LGlob)(w:World)(hI:ImpsAt w iv imps)(hG:GlobsAt w gv globs)(hg:GoodGs globs)(hT:TabAt w)(hS:SentAt w adr):
 Calls Tryz.prog 41 #[.agg #[.string nm,iv,gv]] w λe w'=>e=.returned (errS adr (sBad (imps.length+globs.length) globs 0))∧Below w.heap.size w w':=by
 obtain⟨ip,ic,rfl,hi1,-⟩:=hI.open;obtain⟨p,cap,rfl,hs1,hcell⟩:=hG.open;have HC:Hid (∀w',Below w.heap.size w w'->GlobsIn w' p globs):=hcell;have HG:Hid (GoodGs globs):=hg;have HT:Hid (TabAt w):=hT;have HS:Hid (SentAt w adr):=hS;clear hcell hG hg hI hT hS;go_enter Tryz.func41,Tryz.ntmps41;go_wp2;go_loopw [22] (λi wr=>∃k:Nat,k<=globs.length∧i=.int .i64 k∧Hid (sBad ((imps.length:Int)+(globs.length:Int)) globs 0=sBad ((imps.length:Int)+(globs.length:Int)) (globs.drop k) k)∧Hid (Below w.heap.size w wr)) (λi _=>globs.length-(intOf i).toNat)
 case atStart=>exact⟨0,Nat.zero_le _,rfl,rfl,(Below.refl _ _).alloc (Nat.le_refl _) _⟩
 case round=>
  obtain⟨k,hk,rfl,ha,hb⟩:=hrel;by_cases hlt:k<globs.length
  ·obtain⟨b,o,cp,cn,cc,rfl,c0,c1,c2,c3,hC,hsz⟩:=HC.out _ hb.out k hlt;obtain⟨g1,g2,g3⟩:=HG.out k hlt;have hL:=looks_of (globs[k].arity+1) ((imps.length:Int)+(globs.length:Int)) g1;have HSS:Hid (∀e i,gBad globs[k].code (globs[k].arity+1) ((imps.length:Int)+(globs.length:Int))=some (e,i)->sBad ((imps.length:Int)+(globs.length:Int)) globs 0=some (e,k,i)):=λe i h=>by rw[ha.out];exact sBad_some hlt h
   have HSN:Hid (gBad globs[k].code (globs[k].arity+1) ((imps.length:Int)+(globs.length:Int))=none->sBad ((imps.length:Int)+(globs.length:Int)) globs 0=sBad ((imps.length:Int)+(globs.length:Int)) (globs.drop (k+1)) (k+1)):=λh=>by rw[ha.out];exact sBad_next hlt h
   have HWI:Hid (∀w',Below wr.heap.size wr w'->Calls Tryz.prog 65 #[.slice cp cn cc,.int .i64 ((imps.length:Int)+(globs.length:Int))] w' λe w''=>e=.returned (pairOf (firstBad (badIdx ((imps.length:Int)+(globs.length:Int))) globs[k].code))∧Below w'.heap.size w' w''):=λw' hbw=>wildIndex_any _ _ _ w' (hC.keep hbw);have HWJ:Hid (∀w',Below wr.heap.size wr w'->Calls Tryz.prog 67 #[.slice cp cn cc] w' λe w''=>e=.returned (wildJ globs[k].code)∧Below w'.heap.size w' w''):=λw' hbw=>wildJump_any _ _ w' (hC.keep hbw);have HWD:Hid (Fine globs[k].code->∀w',Below wr.heap.size wr w'->Calls Tryz.prog 68 #[.slice cp cn cc,.int .i64 (globs[k].arity+1)] w' λe w''=>e=.returned (pairOf (firstBad (badD (depOf globs[k].code (globs[k].arity+1))) globs[k].code))∧Below w'.heap.size w' w''):=λhf w' hbw=>(wrongDepth_any _ _ _ w' (hC.keep hbw) (HT.out.keep (hb.out.trans (hbw.mono hb.out.size))) hf (by omega) (by omega)).mono λ_ _ ⟨⟨dep,hd,he⟩,h2⟩=>⟨by rw[depOf_eq hd];exact he,h2⟩;have hbs:=hb.out.size;rename World=>W2
   have HB0:Hid (∀ob,Below W2.heap.size W2 (W2.alloc ob)):=λob=>(Below.refl _ _).alloc (Nat.le_refl _) _;have HCL:Hid (∀w',Below W2.heap.size W2 w'->w'.cell? ⟨13,0,none⟩=some (.iface 251 (.pointer (some (adr 1))))∧w'.cell? ⟨14,0,none⟩=some (.iface 251 (.pointer (some (adr 2))))∧w'.cell? ⟨15,0,none⟩=some (.iface 251 (.pointer (some (adr 3))))):=λw' hbw=>by
    have h:=HS.out.keep (hb.out.trans (hbw.mono hbs));exact⟨h.c 1 (by omega),h.c 2 (by omega),h.c 3 (by omega)⟩
   clear hC g1 ha;generalize gBad globs[k].code (globs[k].arity+1) ((imps.length:Int)+(globs.length:Int))=r at*;generalize globs[k].code=code at*;generalize globs[k].name=gn at*;generalize globs[k].arity=ar at*;generalize globs[k].exp=gex at*;rcases hL with⟨j,h1,rfl⟩|⟨h1,⟨j,h2,rfl⟩|⟨j,h2,hf,h3⟩⟩
   ·have HR:=hid (HSS.out _ _ rfl);rw[h1]at HWI;go_wp2_with (first|(go_at_call 65;refine(HWI.out _ (HB0.out _)).mono ?_;rintro e w1 ⟨rfl,hb1⟩;have hb2:Below W2.heap.size W2 w1:=(HB0.out _).trans (hb1.mono (by simp));have y3:=cell_keep hb1 (alloc_cell W2 _ _ 3 _ rfl);have y1:=cell_keep hb1 (alloc_cell W2 _ _ 1 _ rfl);obtain⟨s1,s2,s3⟩:=HCL.out _ hb2;simp only[pairOf])|(go_at_call 66;refine(In_any _ _ _ _ _).mono ?_;rintro e w7 ⟨rfl,hb7⟩))
    go_ret;exact⟨ret_val (by rw[HR.out];rfl),(hb.out.trans (hb2.mono hbs)).trans (hb7.mono (by have:=hb2.size;omega))⟩
   ·have HR:=hid (HSS.out _ _ rfl);rw[h1]at HWI;rw[h2]at HWJ;go_wp2_with (first|(go_at_call 65;refine(HWI.out _ (HB0.out _)).mono ?_;rintro e w1 ⟨rfl,hb1⟩;have hb2:Below W2.heap.size W2 w1:=(HB0.out _).trans (hb1.mono (by simp));have y3:=cell_keep hb1 (alloc_cell W2 _ _ 3 _ rfl);have y1:=cell_keep hb1 (alloc_cell W2 _ _ 1 _ rfl);obtain⟨s1,s2,s3⟩:=HCL.out _ hb2;simp only[pairOf])|(go_at_call 67;refine(HWJ.out _ hb2).mono ?_;rintro e w3 ⟨rfl,hb3⟩;have hb4:Below W2.heap.size W2 w3:=hb2.trans (hb3.mono hb2.size);have y3:=cell_keep hb3 y3;have y1:=cell_keep hb3 y1;obtain⟨s1,s2,s3⟩:=HCL.out _ hb4)|(go_at_call 66;refine(In_any _ _ _ _ _).mono ?_;rintro e w7 ⟨rfl,hb7⟩))
    go_ret;exact⟨ret_val (by rw[HR.out];rfl),(hb.out.trans (hb4.mono hbs)).trans (hb7.mono (by have:=hb4.size;omega))⟩
   ·have HWD2:=hid (HWD.out hf);rw[h1]at HWI;rw[h2]at HWJ;clear HWD hf h1 h2;rcases h3 with⟨j3,h3,rfl⟩|⟨h3,rfl⟩
    ·have HR:=hid (HSS.out _ _ rfl);rw[h3]at HWD2;go_wp2_with (first|(go_at_call 65;refine(HWI.out _ (HB0.out _)).mono ?_;rintro e w1 ⟨rfl,hb1⟩;have hb2:Below W2.heap.size W2 w1:=(HB0.out _).trans (hb1.mono (by simp));have y3:=cell_keep hb1 (alloc_cell W2 _ _ 3 _ rfl);have y1:=cell_keep hb1 (alloc_cell W2 _ _ 1 _ rfl);obtain⟨s1,s2,s3⟩:=HCL.out _ hb2;simp only[pairOf])|(go_at_call 67;refine(HWJ.out _ hb2).mono ?_;rintro e w3 ⟨rfl,hb3⟩;have hb4:Below W2.heap.size W2 w3:=hb2.trans (hb3.mono hb2.size);have y3:=cell_keep hb3 y3;have y1:=cell_keep hb3 y1;obtain⟨s1,s2,s3⟩:=HCL.out _ hb4)|(go_at_call 68;refine(HWD2.out _ hb4).mono ?_;rintro e w5 ⟨rfl,hb5⟩;have hb6:Below W2.heap.size W2 w5:=hb4.trans (hb5.mono hb4.size);obtain⟨s1,s2,s3⟩:=HCL.out _ hb6;simp only[pairOf])|(go_at_call 66;refine(In_any _ _ _ _ _).mono ?_;rintro e w7 ⟨rfl,hb7⟩))
     go_ret;exact⟨ret_val (by rw[HR.out];rfl),(hb.out.trans (hb6.mono hbs)).trans (hb7.mono (by have:=hb6.size;omega))⟩
    ·have HR:=hid (HSN.out rfl);rw[h3]at HWD2;go_wp2_with (first|(go_at_call 65;refine(HWI.out _ (HB0.out _)).mono ?_;rintro e w1 ⟨rfl,hb1⟩;have hb2:Below W2.heap.size W2 w1:=(HB0.out _).trans (hb1.mono (by simp));have y3:=cell_keep hb1 (alloc_cell W2 _ _ 3 _ rfl);have y1:=cell_keep hb1 (alloc_cell W2 _ _ 1 _ rfl);obtain⟨s1,s2,s3⟩:=HCL.out _ hb2;simp only[pairOf])|(go_at_call 67;refine(HWJ.out _ hb2).mono ?_;rintro e w3 ⟨rfl,hb3⟩;have hb4:Below W2.heap.size W2 w3:=hb2.trans (hb3.mono hb2.size);have y3:=cell_keep hb3 y3;have y1:=cell_keep hb3 y1;obtain⟨s1,s2,s3⟩:=HCL.out _ hb4)|(go_at_call 68;refine(HWD2.out _ hb4).mono ?_;rintro e w5 ⟨rfl,hb5⟩;have hb6:Below W2.heap.size W2 w5:=hb4.trans (hb5.mono hb4.size);obtain⟨s1,s2,s3⟩:=HCL.out _ hb6;simp only[pairOf]))
     exact⟨⟨k+1,by omega,by go_num,HR,hb.out.trans (hb6.mono hbs)⟩,by simp[intOf];omega⟩
  ·go_wp2;go_ret;exact⟨ret_val (by rw[ha.out,List.drop_of_length_le (by omega)];rfl),hb.out⟩
theorem sBad_le{most:Int}{e k i:Nat}:∀(l:List LGlob) (j:Nat),sBad most l j=some (e,k,i)->e<=2
 |[],_,h=>by simp[sBad]at h
 |g::r,j,h=>by
  rw[sBad]at h;split at h
  ·rename_i e' i' hb
   have:=gBad_le hb;simp at h;omega
  ·exact sBad_le r (j+1) h
theorem kCode_next{e:Nat}(h:e<=2):kCode (e+1)=12+(e:Int):=by
 rcases(show e=0∨e=1∨e=2 by omega) with rfl|rfl|rfl<;>rfl
structure Told (w:World) (v:Value) (c x y:Int):Prop where
 kind:∀w',Below w.heap.size w w'->Calls Tryz.prog 15 #[v] w' λe w''=>e=.returned (.int .i64 c)∧Below w'.heap.size w' w''
 place:∀w',Below w.heap.size w w'->Calls Tryz.prog 16 #[v] w' λe w''=>e=.returned (.agg #[.int .i64 x,.int .i64 y])∧Below w'.heap.size w' w''
theorem told_nil(w:World):Told w .nilIface 0 0 0:=⟨λw' _=>(kind_nil w').mono λ_ _ ⟨h1,h2⟩=>⟨h1,by rw[h2];exact Below.refl _ _⟩,λw' _=>place_nil w'⟩
theorem told_plain{w:World}{adr:Nat->Addr}(hS:SentAt w adr)(i:Nat)(hi:0<=i∧i<19):Told w (errE (adr i)) (kCode i) 0 0:=⟨λ_ hb=>kind_plain (hS.keep hb) i hi,λ_ hb=>place_plain (hS.keep hb) (adr i)⟩
theorem told_fault{w:World}{adr:Nat->Addr}(hS:SentAt w adr)(i:Nat)(hi:0<=i∧i<19)(k n:Int):Told w (errF (adr i) k n) (kCode i) k n:=⟨λ_ hb=>kind_fault (hS.keep hb) i hi k n,λ_ hb=>place_fault (hS.keep hb) (adr i) k n⟩
noncomputable def errC(adr:Nat->Addr)(O:LObj):Value:=if valsG O then errS adr (sBad (O.imps.length+O.globs.length) O.globs 0) else errE (adr 0)
theorem objCheck_any(O:LObj)(v:Value)(w:World)(adr:Nat->Addr)(hO:ObjAt w v O)(hT:TabAt w)(hS:SentAt w adr):
 Calls Tryz.prog 23 #[v] w λe w'=>e=.returned (errC adr O)∧Below w.heap.size w w':=by
 have HVA:Hid (∀w',Below w.heap.size w w'->Calls Tryz.prog 40 #[v] w' λe w''=>e=.returned (errV (valsG O) (errE (adr 0)))∧Below w'.heap.size w' w''):=λw' hb=>Values_any O v (errE (adr 0)) w' (hO.keep hb) (hT.keep hb) ((hS.keep hb).c 0 (by omega)) ⟨_,_,rfl⟩;obtain⟨iv,gv,rfl,hsz,hI,hG⟩:=id hO;obtain⟨ip,ic,rfl,hi1,-⟩:=hI.open;obtain⟨p,cap,rfl,hs1,-⟩:=hG.open;have HB0:Hid (∀o,Below w.heap.size w (w.alloc o)):=λo=>(Below.refl _ _).alloc (Nat.le_refl _) _;cases hv:valsG O
 ·have HV2:Hid (∀w',Below w.heap.size w w'->Calls Tryz.prog 40 #[.agg #[.string O.name,.slice ip O.imps.length ic,.slice p O.globs.length cap]] w' λe w''=>e=.returned (.iface 251 (.pointer (some (adr 0))))∧Below w'.heap.size w' w''):=by
   have:=HVA.out;rw[hv]at this;exact this
  have HD:Hid (errC adr O=.iface 251 (.pointer (some (adr 0)))):=by show _=_;unfold errC;rw[hv];rfl
  clear hO hT hS hI hG HVA hv;generalize O.imps.length=n1 at*;generalize O.globs.length=n2 at*;go_enter Tryz.func23,Tryz.ntmps23;go_wp2_with (first|(go_at_call 40;refine(HV2.out _ (HB0.out _)).mono ?_;rintro e w1 ⟨rfl,hb1⟩))
  go_ret;exact⟨ret_val HD.out.symm,(HB0.out _).trans (hb1.mono (by simp))⟩
 ·have HV2:Hid (∀w',Below w.heap.size w w'->Calls Tryz.prog 40 #[.agg #[.string O.name,.slice ip O.imps.length ic,.slice p O.globs.length cap]] w' λe w''=>e=.returned .nilIface∧Below w'.heap.size w' w''):=by
   have:=HVA.out;rw[hv]at this;exact this
  have HOS:Hid (∀w',Below w.heap.size w w'->Calls Tryz.prog 41 #[.agg #[.string O.name,.slice ip O.imps.length ic,.slice p O.globs.length cap]] w' λe w''=>e=.returned (errC adr O)∧Below w'.heap.size w' w''):=by
   intro w' hb;have hg:GoodGs O.globs:=by
    have hv':=hv;simp only[valsG,Bool.and_eq_true]at hv';exact goodGs_of _ _ _ hv'.2
   have hc:errC adr O=errS adr (sBad (O.imps.length+O.globs.length) O.globs 0):=by unfold errC;rw[hv];rfl
   rw[hc];exact objSound_any adr O.name _ _ O.imps O.globs w' (hI.keep hb) (hG.keep hb) hg (hT.keep hb) (hS.keep hb)
  clear hO hT hS hI hG HVA hv;generalize O.imps.length=n1 at*;generalize O.globs.length=n2 at*;generalize errC adr O=r at*;go_enter Tryz.func23,Tryz.ntmps23;go_wp2_with (first|(go_at_call 40;refine(HV2.out _ (HB0.out _)).mono ?_;rintro e w1 ⟨rfl,hb0⟩;have hb1:Below w.heap.size w w1:=(HB0.out _).trans (hb0.mono (by simp));have y0:=cell_keep hb0 (alloc_cell w _ _ 0 _ rfl);have y1:=cell_keep hb0 (alloc_cell w _ _ 1 _ rfl);have y2:=cell_keep hb0 (alloc_cell w _ _ 2 _ rfl))|(go_at_call 41;refine(HOS.out _ hb1).mono ?_;rintro e w3 ⟨rfl,hb3⟩))
  go_ret;exact⟨rfl,hb1.trans (hb3.mono hb1.size)⟩
theorem tarnSound_told(O:LObj)(v r:Value)(c x y:Int)(w:World)(hO:ObjAt w v O)(hC:∀w',Below w.heap.size w w'->Calls Tryz.prog 23 #[v] w' λe w''=>e=.returned r∧Below w'.heap.size w' w'')(hT:Told w r c x y):
 Calls Tryz.prog 12 #[v] w λe w'=>e=.returned (.tuple #[.int .i64 c,.agg #[.int .i64 x,.int .i64 y]])∧Below w.heap.size w w':=by
 obtain⟨iv,gv,rfl,hsz,hI,hG⟩:=id hO;obtain⟨ip,ic,rfl,hi1,-⟩:=hI.open;obtain⟨p,cap,rfl,hs1,-⟩:=hG.open;have HC:Hid (∀w',Below w.heap.size w w'->Calls Tryz.prog 23 #[.agg #[.string O.name,.slice ip O.imps.length ic,.slice p O.globs.length cap]] w' λe w''=>e=.returned r∧Below w'.heap.size w' w''):=hC;have HT0:Hid (Told w r c x y):=hT;clear hC hT hO hI hG;generalize O.imps.length=n1 at*;generalize O.globs.length=n2 at*;have HB0:Hid (∀o1 o2,Below w.heap.size w ((w.alloc o1).alloc o2)):=λo1 o2=>((Below.refl _ _).alloc (Nat.le_refl _) _).alloc (by simp) _;have HP0:Hid (∀o1,P2 ((w.alloc o1).alloc (.cells #[.int .i64 0,.int .i64 0] 52)) (w.heap.size+1)):=λo1=>⟨by simp,by simp,by simp,by simp⟩;go_enter Tryz.func12,Tryz.ntmps12;go_wp2_with (first
  |(go_at_call 23;refine(HC.out _ (HB0.out _ _)).mono ?_;rintro e w1 ⟨rfl,hb1⟩;have hp1:=(HP0.out _).keep hb1;have hb2:Below w.heap.size w w1:=(HB0.out _ _).trans (hb1.mono (by simp;omega)))
  |(go_at_call 15;refine(HT0.out.kind _ hb2).mono ?_;rintro e w3 ⟨rfl,hb3⟩;have hp3:=hp1.keep hb3;have hb4:Below w.heap.size w w3:=hb2.trans (hb3.mono hb2.size))
  |(go_at_call 16;refine(HT0.out.place _ hb4).mono ?_;rintro e w5 ⟨rfl,hb5⟩;have hp5:=hp3.keep hb5;have HP5:Hid (P2 w5 (w.heap.size+1)):=hp5;have HB6:Hid (Below w.heap.size w w5):=hb4.trans (hb5.mono hb4.size);obtain⟨p0,p1,p2,p3⟩:=hp5))
 obtain⟨s0,s1⟩:=HP5.out.put (.int .i64 x) (.int .i64 y);refine bodyPost_ret (v:=.tuple #[.int .i64 c,.agg #[.int .i64 x,.int .i64 y]]) (by simp[results,Tryz.results12,go_sem,s0,s1]) rfl ?_;exact⟨rfl,(HB6.out.setCell (by simp) _).setCell (by simp) _⟩
theorem tarnSound_any(O:LObj)(v:Value)(w:World)(adr:Nat->Addr)(hO:ObjAt w v O)(hT:TabAt w)(hS:SentAt w adr):
 Calls Tryz.prog 12 #[v] w λe w'=>e=.returned (docS O)∧Below w.heap.size w w':=by
 have hC:∀w',Below w.heap.size w w'->Calls Tryz.prog 23 #[v] w' λe w''=>e=.returned (errC adr O)∧Below w'.heap.size w' w'':=λw' hb=>objCheck_any O v w' adr (hO.keep hb) (hT.keep hb) (hS.keep hb);cases hv:valsG O
 ·have h1:errC adr O=errE (adr 0):=by unfold errC;rw[hv];rfl
  have h2:docS O=.tuple #[.int .i64 15,.agg #[.int .i64 0,.int .i64 0]]:=by unfold docS;rw[hv];rfl
  rw[h2];rw[h1]at hC;exact tarnSound_told O v _ 15 0 0 w hO hC (told_plain hS 0 (by omega))
 ·have h1:errC adr O=errS adr (sBad (O.imps.length+O.globs.length) O.globs 0):=by unfold errC;rw[hv];rfl
  rw[h1]at hC;cases hsb:sBad (O.imps.length+O.globs.length) O.globs 0 with
  |none=>
   have h2:docS O=.tuple #[.int .i64 0,.agg #[.int .i64 0,.int .i64 0]]:=by unfold docS;rw[hv,hsb];rfl
   rw[h2];rw[hsb]at hC;exact tarnSound_told O v _ 0 0 0 w hO hC (told_nil w)
  |some r=>
   obtain⟨e,k,i⟩:=r;have he:=sBad_le _ _ hsb;have h2:docS O=.tuple #[.int .i64 (12+(e:Int)),.agg #[.int .i64 (k:Int),.int .i64 (i:Int)]]:=by unfold docS;rw[hv,hsb];rfl
   rw[h2];rw[hsb]at hC;refine tarnSound_told O v _ _ _ _ w hO hC ?_;rw[<-kCode_next he];exact told_fault hS (e+1) (by omega) _ _
end Go.Proofs.YtahmgjjgikgpoaaGreatDoor
namespace Go.Proofs.YtahmgjjgikgpoaaGreatDoor
open Go.ChangeShapes Go.WideShapes Go.ChangeAt Go.RowKit
noncomputable def low:Nat:=(World.holding Tryz.prog default ⟨#[],#[],[]⟩).heap.size
def natsOf:DataW Unit->List Lit
 |.agg l=>l.filterMap fun|.lit x=>some x|_=>none
 |_=>[]
def cellOf:Lit->Value
 |.int k n=>.int k n
 |.bool b=>.bool b
 |_=>.nilIface
noncomputable def laidWorld(os:Os):World:=
 let w0:=World.holding Tryz.prog os ⟨((List.range 19).map λi=>Obj.cells #[.string ⟨(kTxt i).toArray⟩] 271).toArray,#[],[]⟩
 {w0 with heap:=((((((List.range 19).foldl (λ(h:Array Obj) i=>h.modify (kNum i) fun
  |.cells _ t frozen=>.cells #[.iface 251 (.pointer (some ⟨low+i,0,none⟩))] t frozen
  |o=>o) w0.heap).modify 19 fun
  |.cells _ t frozen=>.cells #[.iface 171 (.agg #[.pointer (some ⟨25,60,none⟩)])] t frozen
  |o=>o).modify 20 fun
  |.cells _ t frozen=>.cells (rowsTab.map λz=>Value.int .i64 z).toArray t frozen
  |o=>o).modify 21 fun
  |.cells _ t frozen=>.cells ((natsOf Rows.laid_internal_strconv_uint64pow10).map cellOf).toArray t frozen
  |o=>o).modify 23 fun
  |.cells _ t frozen=>.cells ((natsOf Rows.laid_math_bits_deBruijn32tab).map cellOf).toArray t frozen
  |o=>o).modify 24 fun
  |.cells _ t frozen=>.cells ((natsOf Rows.laid_math_bits_deBruijn64tab).map cellOf).toArray t frozen
  |o=>o}
def argR:Array Value:=#[.slice none 0 0,.string ⟨#[]⟩,.slice none 0 0]
theorem laid_met(os:Os):laidMetH Tryz.prog Rows.runsRow.laid ((laidWorld os).forCall (λ_ _=>0) ⟨#[],argR,[]⟩).memory:=
 laidMetH_of_parts (laidMet_of_run3 8 (by kernel_rfl) (by kernel_rfl) (by kernel_rfl)) (by kernel_rfl)
theorem reads(os:Os){H:Type}(enc:TypeId×Value->H):∃places,DataW.whole enc Tryz.prog ((laidWorld os).forCall (λ_ _=>0) ⟨#[],argR,[]⟩).memory Tryz.f3.params.toList Rows.runsSpec.vars false argR.toList 8=some ([.nil,.lit (.string []),.nil],[],places):=
 ⟨[],by kernel_rfl⟩
end Go.Proofs.YtahmgjjgikgpoaaGreatDoor
