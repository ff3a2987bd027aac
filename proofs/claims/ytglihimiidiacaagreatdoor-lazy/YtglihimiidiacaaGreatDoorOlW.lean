import Derived.Test.YtglihimiidiacaaGreatDoorOlH
import Derived.Test.YtglihimiidiacaaGreatDoorCards
import Derived.Stop.LaidErr
import Derived.LaidHandle
import Derived.OpenShut
import Derived.Lib.LaidTab
import Derived.SizedLaws
import Derived.WalkKit
import Derived.ProofKit
import Derived.Deep.DeepHandedRow
import Derived.Deep.DeepLaidRun
import Derived.Carry
namespace Go.Proofs.YtglihimiidiacaaGreatDoor.Ev8
open Go Go.RowKit Go.Sort Go.ChangeShapes Go.WideShapes Go.Proofs Go.Proofs.YtglihimiidiacaaGreatDoor
theorem one_at{cs:List Value}{i k:Nat}{v:Value}(hk:k=1)(h:(cs.drop i).take k=[v]):cs[i]?=some v:=by
 subst hk;have h1:=congrArg (·[0]?) h;simpa[List.getElem?_take,List.getElem?_drop]using h1
theorem laid_mem{P:Program}{W:World}{x:String×DataW Unit}:∀{l:List (String×DataW Unit)},laidMet P l W→x∈l→∃r,laidMet P (x::r) W
 |y::r,h,hx=>by
  rcases List.mem_cons.1 hx with rfl|hx
  ·exact⟨r,h⟩
  ·exact laid_mem h.tail hx
theorem star: "*"++ "errors.errorString"= "*errors.errorString":=by decide
theorem Tryz.errRow(u:TypeId)(h:Tryz.prog.typeName? 3 u=some "*errors.errorString"):u=443:=
 typeName_ptr_named (nm:= "errors.errorString") (by rw[star];kernel_rfl) (by kernel_rfl) (by decide) u (by rw[star];exact h)
theorem cells_string:Tryz.prog.cellsOf 9=1:=by kernel_rfl
theorem cells_errS:Tryz.prog.cellsOf 445=1:=by kernel_rfl
set_option maxRecDepth 100000 in
theorem sent_get{W:World}{n:String}{g:Nat}{text:List UInt8}{l:List (String×DataW Unit)}(h:laidMet Tryz.prog l W)(hm:(n,DataW.iface "*errors.errorString" (.ptr (.agg [.lit (.string text)])))∈l)(hg:Tryz.prog.globalNamed n=some g)(ht:(Tryz.prog.globals[g]?).map (·.type)=some 70):
 ∃(a:Addr) (s:ByteArray),W.cell? ⟨g,0,none⟩=some (errE a)∧W.cell? a=some (.string s)∧s.data.toList=text∧(∃c t,W.heap[a.block]?=some (.cells c t (0,0)))∧∃c t,W.heap[g]?=some (.cells c t (0,0))∧c[0]?=some (errE a):=by
 obtain⟨r,h⟩:=laid_mem h hm;obtain⟨ps,⟨g0,t0,cs0,f0,p0,q0,hg0,ht0,hv0,hd0,_,e0⟩,_,hrows⟩:=h;obtain rfl:=Option.some.inj (hg.symm.trans hg0);obtain rfl:=Option.some.inj (ht.symm.trans ht0);subst e0;obtain⟨l0⟩:=cs0;have ok0:∀u v,l0=[.iface u v]→Value.okWide Tryz.prog W .any 0 u v:=fun u v e=>by
  subst e;exact(hrows g 0 (by simp[MemPlace.row])).2 u v (by simpa using World.var?_cell hg0 hv0 0)
 obtain⟨a0,s0,rfl,hc0,hs0,hz0,rfl⟩:=errorString_of_trod Tryz.underlying70 Tryz.errRow Tryz.underlying443 Tryz.underlying445 rfl rfl Tryz.underlying9 cells_errS cells_string hd0 ok0;refine⟨a0,s0,by simpa[errE]using World.var?_cell hg0 hv0 0,hc0,hs0,(hrows a0.block a0.off ?_).1,?_⟩
 ·simp[MemPlace.row]
 ·obtain⟨c,t,hc⟩:=(hrows g 0 (by simp[MemPlace.row])).1;refine⟨c,t,hc,?_⟩;have h5:W.cell? ⟨g,0,none⟩=some (errE a0):=by simpa[errE]using World.var?_cell hg0 hv0 0
  simpa[World.cell?,hc]using h5
def L13:List (String×DataW Unit):=[("math/bits.deBruijn32tab",Rows.laid_math_bits_deBruijn32tab),("math/bits.deBruijn64tab",Rows.laid_math_bits_deBruijn64tab),("internal/strconv.uint64pow10",Rows.laid_internal_strconv_uint64pow10),("strconv.ErrRange",Rows.laid_strconv_ErrRange),("strconv.ErrSyntax",Rows.laid_strconv_ErrSyntax),("tarn/fault.Long",Rows.laid_tarn_fault_Long),("tarn/fault.Syntax",Rows.laid_tarn_fault_Syntax),("tarn/fault.Deep",Rows.laid_tarn_fault_Deep),("tarn/fault.Twice",Rows.laid_tarn_fault_Twice),("tarn/fault.Name",Rows.laid_tarn_fault_Name),("tarn/fault.Short",Rows.laid_tarn_fault_Short),("tarn/fault.Sum",Rows.laid_tarn_fault_Sum),("tarn/fault.Form",Rows.laid_tarn_fault_Form),("tarn/fault.Varint",Rows.laid_tarn_fault_Varint),("tarn/fault.Order",Rows.laid_tarn_fault_Order),("tarn/fault.More",Rows.laid_tarn_fault_More),("tarn/fault.Index",Rows.laid_tarn_fault_Index),("tarn/fault.Jump",Rows.laid_tarn_fault_Jump),("tarn/fault.Depth",Rows.laid_tarn_fault_Depth),("tarn/fault.Value",Rows.laid_tarn_fault_Value),("tarn/fault.Missing",Rows.laid_tarn_fault_Missing),("tarn/fault.Arity",Rows.laid_tarn_fault_Arity),("tarn/fault.Entry",Rows.laid_tarn_fault_Entry),("tarn/fault.Big",Rows.laid_tarn_fault_Big),("tarn/object.rows",Rows.laid_tarn_object_rows)]
theorem laid_split{W:World}(h:laidMetH Tryz.prog Rows.lazyRow.laid W):laidMet Tryz.prog L13 W∧handlesMet Tryz.prog [("errors.errorType",Rows.laid_errors_errorType)] W:=h
def txt:DataW Unit→List UInt8
 |.iface _ (.ptr (.agg [.lit (.string b)]))=>b
 |_=>[]
def kTxt(i:Nat):List UInt8:=([Rows.laid_tarn_fault_Value,Rows.laid_tarn_fault_Index,Rows.laid_tarn_fault_Jump,Rows.laid_tarn_fault_Depth,Rows.laid_tarn_fault_Long,Rows.laid_tarn_fault_Name,Rows.laid_tarn_fault_Short,Rows.laid_tarn_fault_Sum,Rows.laid_tarn_fault_Form,Rows.laid_tarn_fault_Varint,Rows.laid_tarn_fault_Order,Rows.laid_tarn_fault_More,Rows.laid_tarn_fault_Syntax,Rows.laid_tarn_fault_Deep,Rows.laid_tarn_fault_Twice,Rows.laid_tarn_fault_Missing,Rows.laid_tarn_fault_Arity,Rows.laid_tarn_fault_Entry,Rows.laid_tarn_fault_Big].map txt).getD i []
theorem kTxt_ne:∀i,i<19→∀j,j<19→i≠j→kTxt i≠kTxt j:=by decide
set_option maxRecDepth 100000 in
theorem sents{W:World}(h:laidMet Tryz.prog L13 W):∀i,i<19→∃(a:Addr) (s:ByteArray),W.cell? ⟨kNum i,0,none⟩=some (errE a)∧W.cell? a=some (.string s)∧s.data.toList=kTxt i∧(∃c t,W.heap[a.block]?=some (.cells c t (0,0)))∧∃c t,W.heap[kNum i]?=some (.cells c t (0,0))∧c[0]?=some (errE a)
 |0,_=>sent_get (n:= "tarn/fault.Value") h (List.mem_of_getElem? (i:=19) rfl) (by kernel_rfl) (by kernel_rfl)
 |1,_=>sent_get (n:= "tarn/fault.Index") h (List.mem_of_getElem? (i:=16) rfl) (by kernel_rfl) (by kernel_rfl)
 |2,_=>sent_get (n:= "tarn/fault.Jump") h (List.mem_of_getElem? (i:=17) rfl) (by kernel_rfl) (by kernel_rfl)
 |3,_=>sent_get (n:= "tarn/fault.Depth") h (List.mem_of_getElem? (i:=18) rfl) (by kernel_rfl) (by kernel_rfl)
 |4,_=>sent_get (n:= "tarn/fault.Long") h (List.mem_of_getElem? (i:=5) rfl) (by kernel_rfl) (by kernel_rfl)
 |5,_=>sent_get (n:= "tarn/fault.Name") h (List.mem_of_getElem? (i:=9) rfl) (by kernel_rfl) (by kernel_rfl)
 |6,_=>sent_get (n:= "tarn/fault.Short") h (List.mem_of_getElem? (i:=10) rfl) (by kernel_rfl) (by kernel_rfl)
 |7,_=>sent_get (n:= "tarn/fault.Sum") h (List.mem_of_getElem? (i:=11) rfl) (by kernel_rfl) (by kernel_rfl)
 |8,_=>sent_get (n:= "tarn/fault.Form") h (List.mem_of_getElem? (i:=12) rfl) (by kernel_rfl) (by kernel_rfl)
 |9,_=>sent_get (n:= "tarn/fault.Varint") h (List.mem_of_getElem? (i:=13) rfl) (by kernel_rfl) (by kernel_rfl)
 |10,_=>sent_get (n:= "tarn/fault.Order") h (List.mem_of_getElem? (i:=14) rfl) (by kernel_rfl) (by kernel_rfl)
 |11,_=>sent_get (n:= "tarn/fault.More") h (List.mem_of_getElem? (i:=15) rfl) (by kernel_rfl) (by kernel_rfl)
 |12,_=>sent_get (n:= "tarn/fault.Syntax") h (List.mem_of_getElem? (i:=6) rfl) (by kernel_rfl) (by kernel_rfl)
 |13,_=>sent_get (n:= "tarn/fault.Deep") h (List.mem_of_getElem? (i:=7) rfl) (by kernel_rfl) (by kernel_rfl)
 |14,_=>sent_get (n:= "tarn/fault.Twice") h (List.mem_of_getElem? (i:=8) rfl) (by kernel_rfl) (by kernel_rfl)
 |15,_=>sent_get (n:= "tarn/fault.Missing") h (List.mem_of_getElem? (i:=20) rfl) (by kernel_rfl) (by kernel_rfl)
 |16,_=>sent_get (n:= "tarn/fault.Arity") h (List.mem_of_getElem? (i:=21) rfl) (by kernel_rfl) (by kernel_rfl)
 |17,_=>sent_get (n:= "tarn/fault.Entry") h (List.mem_of_getElem? (i:=22) rfl) (by kernel_rfl) (by kernel_rfl)
 |18,_=>sent_get (n:= "tarn/fault.Big") h (List.mem_of_getElem? (i:=23) rfl) (by kernel_rfl) (by kernel_rfl)
 |i+19,h=>absurd h (by omega)
theorem Tryz.et:Tryz.prog.globalNamed "errors.errorType"=some 19:=by kernel_rfl
theorem Tryz.rt:(Tryz.prog.cutTypes.find? (·.1== "internal/reflectlite.rtype")).map (·.2)=some 255:=by kernel_rfl
theorem Tryz.tsize:Tryz.prog.types.size=473:=by kernel_rfl
theorem Tryz.oneRow:((List.range 473).filter fun t=>Tryz.prog.rowNamed t [101,114,114,111,114])=[70]:=by kernel_rfl
theorem Tryz.hErr:typeHandle Tryz.prog 70=.pointer (some ⟨27,70,none⟩):=by kernel_rfl
theorem handle_of_laid{W:World}(h:handlesMet Tryz.prog [("errors.errorType",Rows.laid_errors_errorType)] W):∃c t fr,W.heap[19]?=some (.cells c t fr)∧c[0]?=some (.iface 255 (.agg #[.pointer (some ⟨27,70,none⟩)])):=by
 obtain⟨name,u,ty,e1,e2,e3,e4,e5⟩:=h _ (List.mem_singleton.2 rfl);have en:name=[101,114,114,111,114]:=(Option.some.inj e1).symm;subst en;obtain rfl:=Option.some.inj (Tryz.rt.symm.trans e2);have hm:ty∈(List.range 473).filter fun t=>Tryz.prog.rowNamed t [101,114,114,111,114]:=List.mem_filter.2 ⟨List.mem_range.2 (by rw[←Tryz.tsize];exact e3),e4⟩;rw[Tryz.oneRow]at hm;obtain rfl:=List.mem_singleton.1 hm;rw[Tryz.hErr]at e5;have h6:W.cell? ⟨19,0,none⟩=some (.iface 255 (.agg #[.pointer (some ⟨27,70,none⟩)])):=by simpa using World.var?_cell Tryz.et e5 0
 unfold World.cell? at h6;split at h6
 ·rename_i c t fr hc
  exact⟨c,t,fr,hc,h6⟩
 ·cases h6
theorem numA_rl{ι:Io}{k:IntKind}:∀{l:List Int},(∀z∈l,k.wrap z=z)→RL ι (numA k l) (l.map fun z=>Value.int k z)
 |[],_=>rfl
 |z::_,h=>⟨_,_,rfl,⟨rfl,h z (List.mem_cons_self ..)⟩,numA_rl fun x hx=>h x (List.mem_cons_of_mem _ hx)⟩
theorem rows_w:(rowsTab.all fun z=>decide (IntKind.i64.wrap z=z))=true:=by kernel_rfl
theorem rows_l:rowsTab.length=147:=by kernel_rfl
theorem pow_w:(Lib.pow10Tab.all fun z=>decide (IntKind.u64.wrap z=z))=true:=by kernel_rfl
theorem var_at{W:World}{n:String}{g:Nat}{cs:Array Value}{d:DataW Unit}{r:List (String×DataW Unit)}(h:laidMet Tryz.prog ((n,d)::r) W)(hg:Tryz.prog.globalNamed n=some g)(hv:W.var? Tryz.prog n=some cs)(h0:0<cs.size):∃t,W.heap[g]?=some (.cells cs t (0,0)):=by
 obtain⟨ps,⟨g0,t0,cs0,f0,p0,q0,hg0,ht0,hv0,hd0,_,e0⟩,_,hrows⟩:=h;obtain rfl:=Option.some.inj (hg.symm.trans hg0);obtain rfl:=Option.some.inj (hv.symm.trans hv0);obtain⟨c,t,hc⟩:=(hrows g 0 (by
  rw[e0];simp only[MemPlace.row,List.mem_append,List.mem_map,List.mem_range];exact .inl (.inl ⟨0,h0,by simp⟩))).1
 refine⟨t,?_⟩;rw[hc];unfold World.var? at hv;rw[hg]at hv;simp only[Option.bind_some,hc,Option.some.injEq]at hv;rw[hv]
theorem ints_of_struct{W:World}{sp:Nat→Bool}{held:Bool}{e:TypeId}{fs:Array Field}{fuel:Nat}{cs:List Value}{zs:List Int}{p:List MemPlace}(hs:Tryz.prog.underlying e=some (.struct fs))
 (hone:∀(i:Nat) (f:Field),fs[i]?=some f→f.offset=i∧Tryz.prog.cellsOf f.type=1) (hint:∀(i:Nat) (f:Field),fs[i]?=some f→Tryz.prog.underlying f.type=some (.int .i64))
 (h:DataW.trod (fun _=>()) Tryz.prog W 0 sp held fuel e cs=some (.agg (zs.map fun z=>.lit (.int .i64 z)),p)):∀i,i<fs.size→cs[i]?=some (.int .i64 (zs.getD i 0)):=by
 intro i hi;obtain⟨xs,n,-,hx,-,hlen,hf⟩:=DataW.trod_struct hs h;have hfi:fs[i]?=some fs[i]:=Array.getElem?_eq_getElem hi;obtain⟨ho,hc⟩:=hone i _ hfi;have h1:=hf i _ hfi;rw[ho,hc,List.getElem?_eq_getElem (by omega)]at h1;obtain⟨z,e1,e2,-⟩:=DataW.trod_int (hint i _ hfi) h1;have e3:zs.map (fun z=>(DataW.lit (.int .i64 z):DataW Unit))=xs.map (·.1):=by
  have:=congrArg Prod.fst hx;simpa using this
 have e4:(zs.map (fun z=>(DataW.lit (.int .i64 z):DataW Unit)))[i]?=some (.lit (.int .i64 z)):=by
  rw[e3,List.getElem?_map,List.getElem?_eq_getElem (by omega),e2];rfl
 rw[List.getElem?_map]at e4;obtain⟨z',h5,h6⟩:=Option.map_eq_some_iff.1 e4;simp only[DataW.lit.injEq,Lit.int.injEq,true_and]at h6;subst h6;rw[one_at rfl e1,List.getD,h5];rfl
def rowData(k:Nat):DataW Unit:=.agg (((List.range 7).map fun j=>rowN k j).map fun z=>.lit (.int .i64 z))
set_option maxRecDepth 100000 in
theorem rows_data:(Rows.laid_tarn_object_rows:DataW Unit)=.agg ((List.range 21).map rowData):=by kernel_rfl
theorem cells_row:Tryz.prog.cellsOf 364=7:=by kernel_rfl
theorem cells_rows:Tryz.prog.cellsOf 365=147:=by kernel_rfl
theorem fields_ok:(match Tryz.prog.underlying 364 with|some (.struct fs)=>(List.range fs.size).all (fun i=>match fs[i]? with|some f=>f.offset==i && Tryz.prog.cellsOf f.type==1 && (match Tryz.prog.underlying f.type with|some (.int .i64)=>true|_=>false)|none=>false) && fs.size==7|_=>false)=true:=by kernel_rfl
set_option maxRecDepth 100000 in
theorem rows_at{W:World}(h1:laidMet Tryz.prog L13 W):RowAt W 24 rowsL:=by
 obtain⟨r,h2⟩:=laid_mem (x:=("tarn/object.rows",Rows.laid_tarn_object_rows)) h1 (List.mem_of_getElem? (i:=24) rfl);have h2':=h2;obtain⟨ps,⟨g0,t0,cs0,f0,p0,q0,hg0,ht0,hv0,hd0,_,e0⟩,_,hrows⟩:=h2;have hg:Tryz.prog.globalNamed "tarn/object.rows"=some 24:=by kernel_rfl
 have ht:(Tryz.prog.globals[24]?).map (·.type)=some 365:=by kernel_rfl
 obtain rfl:=Option.some.inj (hg.symm.trans hg0);obtain rfl:=Option.some.inj (ht.symm.trans ht0);rw[rows_data]at hd0;obtain⟨xs,m,-,hx,hl,hlen,hf⟩:=DataW.trod_array Tryz.underlying365 hd0;rw[cells_rows]at hl;obtain⟨fs,hs⟩:∃fs,Tryz.prog.underlying 364=some (.struct fs):=⟨_,Tryz.underlying364⟩;have hok:=fields_ok;rw[hs]at hok;simp only[Bool.and_eq_true,List.all_eq_true,List.mem_range,beq_iff_eq]at hok;obtain⟨hok,h7⟩:=hok;have hone:∀(i:Nat) (f:Field),fs[i]?=some f→(f.offset=i∧Tryz.prog.cellsOf f.type=1)∧Tryz.prog.underlying f.type=some (.int .i64):=by
  intro i f hi;have hlt:i<fs.size:=(Array.getElem?_eq_some_iff.1 hi).1;have:=hok i hlt;rw[hi]at this;simp only[Bool.and_eq_true,beq_iff_eq]at this;refine⟨this.1,?_⟩;have h3:=this.2;split at h3
  ·rename_i h4
   exact h4
  ·cases h3
 have hat:∀i,i<147→cs0.toList[i]?=some (.int .i64 (rowsTab.getD i 0)):=by
  intro i hi;have hk:i / 7<21:=by omega
  have h3:=hf (i / 7) hk;rw[cells_row,List.getElem?_eq_getElem (by omega)]at h3;have h4:(xs.map (·.1))[i / 7]?=some (rowData (i / 7)):=by
   have:=congrArg Prod.fst hx;simp only[DataW.agg.injEq]at this;rw[←this,List.getElem?_map,List.getElem?_range hk];rfl
  rw[List.getElem?_map,List.getElem?_eq_getElem (by omega)]at h4;simp only[Option.map_some,Option.some.injEq]at h4;have h5:DataW.trod (fun _=>()) Tryz.prog W 0 (fun _=>true) false m 364 ((cs0.toList.drop (i / 7*7)).take 7)=some (.agg (((List.range 7).map fun j=>rowN (i / 7) j).map fun z=>.lit (.int .i64 z)),(xs[i / 7]'(by omega)).2):=by
   rw[h3];exact congrArg some (Prod.ext h4 rfl)
  have h6:=ints_of_struct hs (fun i f h=>(hone i f h).1) (fun i f h=>(hone i f h).2) h5 (i % 7) (by omega);rw[List.getElem?_take,if_pos (by omega),List.getElem?_drop,show i / 7*7+i % 7=i by omega]at h6;have h9:((List.range 7).map fun j=>rowN (i / 7) j).getD (i % 7) 0=rowsTab.getD i 0:=by
   rw[List.getD,List.getElem?_map,List.getElem?_range (by omega)];simp only[Option.map_some,Option.getD_some,rowN];rw[show i / 7*7+i % 7=i by omega]
  rw[h9]at h6;exact h6
 have hcs:cs0.toList=rowsTab.map fun z=>Value.int .i64 z:=by
  apply List.ext_getElem?;intro i;by_cases hi:i<147
  ·rw[hat i hi,List.getElem?_map,List.getD,List.getElem?_eq_getElem (by rw[rows_l];exact hi)];rfl
  ·rw[List.getElem?_eq_none (by omega),List.getElem?_eq_none (by rw[List.length_map,rows_l];omega)]
 obtain⟨t,hh⟩:=var_at h2' hg hv0 (by rw[←Array.length_toList];omega);refine⟨cs0.toList,t,by rw[Array.toArray_toList];exact hh,?_⟩;rw[hcs,←rows_num];exact numA_rl fun z hz=>of_decide_eq_true (List.all_eq_true.1 rows_w z hz)
set_option maxRecDepth 100000 in
theorem pow_at{W:World}(h:laidMet Tryz.prog L13 W):RowAt W 0 powL:=by
 obtain⟨r,h2⟩:=laid_mem (x:=("internal/strconv.uint64pow10",Rows.laid_internal_strconv_uint64pow10)) h (List.mem_of_getElem? (i:=2) rfl);have h3:=h2;rw[show(Rows.laid_internal_strconv_uint64pow10:DataW Unit)=Lib.tabData .u64 Lib.pow10Tab from rfl]at h2;have hT:Lib.TabIs Tryz.prog W "internal/strconv.uint64pow10" .u64 Lib.pow10Tab:=Lib.tabIs_of_head (g:=0) (t:=106) (by kernel_rfl) (by kernel_rfl) Tryz.underlying106 Tryz.underlying59 (by kernel_rfl) (by kernel_rfl) h2;obtain⟨t,hh⟩:=var_at h3 (g:=0) (by kernel_rfl) hT (by simp;decide);refine⟨_,t,hh,?_⟩;rw[←pow_num];exact numA_rl fun z hz=>of_decide_eq_true (List.all_eq_true.1 pow_w z hz)
set_option maxRecDepth 100000 in
theorem size_at{W:World}(h:laidMet Tryz.prog L13 W):27≤W.heap.size:=by
 obtain⟨r,h2⟩:=laid_mem (x:=("strconv.ErrRange",Rows.laid_strconv_ErrRange)) h (List.mem_of_getElem? (i:=3) rfl);obtain⟨ps,⟨g0,t0,cs0,f0,p0,q0,hg0,ht0,hv0,hd0,_,e0⟩,_,hrows⟩:=h2;have hg:Tryz.prog.globalNamed "strconv.ErrRange"=some 26:=by kernel_rfl
 obtain rfl:=Option.some.inj (hg.symm.trans hg0);unfold World.var? at hv0;rw[hg]at hv0;simp only[Option.bind_some]at hv0;rcases Nat.lt_or_ge 26 W.heap.size with h1|h1
 ·omega
 ·rw[Array.getElem?_eq_none h1]at hv0;cases hv0
def blkAt(W:World)(B:Nat):Option (Nat×Array Value×TypeId×(Nat×Nat)):=match W.heap[B]? with|some (Obj.cells cs t fr)=>some (B,cs,t,fr)|_=>none
theorem pick_in{W:World}{Bs:List Nat}{B:Nat}{cs:Array Value}{t:TypeId}{fr:Nat×Nat}(hB:B∈Bs)(h:W.heap[B]?=some (.cells cs t fr)):(B,cs,t,fr)∈Bs.filterMap (blkAt W):=by
 rw[List.mem_filterMap];exact⟨B,hB,by unfold blkAt;rw[h]⟩
theorem txt_ne{W:World}{g:Nat}{l:AV}{a:Addr}{s:ByteArray}{k:IntKind}{zs:List Int}(hl:numA k zs=l)(h:RowAt W g l)(hc:W.cell? a=some (.string s)):a.block≠g:=by
 intro e;obtain⟨vs,t,h1,h2⟩:=h;rw[←hl]at h2;have e2:=numA_is h2;subst e2;unfold World.cell? at hc;rw[e,h1]at hc;simp only[List.getElem?_toArray,List.getElem?_map]at hc;split at hc
 ·cases hc
 ·obtain⟨z,-,h3⟩:=Option.map_eq_some_iff.1 hc;cases h3
set_option maxRecDepth 100000 in
theorem hold_of{W:World}(h:laidMetH Tryz.prog Rows.lazyRow.laid W):Hold W:=by
 obtain⟨h1,h2⟩:=laid_split h;have hrw:=rows_at h1;have hpw:=pow_at h1;refine⟨size_at h1,hrw,hpw,?_⟩;obtain⟨adr,hA⟩:=Go.Deep.choose_lt (sents h1);obtain⟨ce,te,fe,he1,he2⟩:=handle_of_laid h2;obtain⟨a1,s1,-,-,-,-,c5,t5,h51,h52⟩:=sent_get (n:= "strconv.ErrSyntax") (g:=25) h1 (List.mem_of_getElem? (i:=4) rfl) (by kernel_rfl) (by kernel_rfl);obtain⟨a2,s2,-,-,-,-,c6,t6,h61,h62⟩:=sent_get (n:= "strconv.ErrRange") (g:=26) h1 (List.mem_of_getElem? (i:=3) rfl) (by kernel_rfl) (by kernel_rfl);obtain⟨Bs,hBs⟩:∃Bs,Bs=(List.range 19).map kNum++((List.range 19).map (fun i=>(adr i).block)++[19,25,26]):=⟨_,rfl⟩;refine⟨Bs.filterMap (blkAt W),⟨adr,fun i hi=>?_,fun i hi=>?_,fun i j hi hj hne e=>?_,⟨ce,te,fe,pick_in (by rw[hBs];simp) he1,he2⟩,⟨c5,t5,_,_,pick_in (by rw[hBs];simp) h51,h52,.inr ⟨_,_,rfl⟩⟩,⟨c6,t6,_,_,pick_in (by rw[hBs];simp) h61,h62,.inr ⟨_,_,rfl⟩⟩⟩,fun q hq=>?_⟩
 ·obtain⟨s,-,-,-,-,c,t,k1,k2⟩:=hA i hi;exact⟨c,t,_,pick_in (by rw[hBs];exact List.mem_append_left _ (List.mem_map.2 ⟨i,List.mem_range.2 hi,rfl⟩)) k1,k2⟩
 ·obtain⟨s,-,-,-,⟨c,t,k1⟩,-⟩:=hA i hi;exact⟨c,t,pick_in (by rw[hBs];exact List.mem_append_right _ (List.mem_append_left _ (List.mem_map.2 ⟨i,List.mem_range.2 hi,rfl⟩))) k1⟩
 ·obtain⟨s,-,h3,h4,-⟩:=hA i hi;obtain⟨s',-,h5,h6,-⟩:=hA j hj;rw[e]at h3;rw[h3]at h5;simp only[Option.some.injEq,Value.string.injEq]at h5;subst h5;exact kTxt_ne i hi j hj hne (h4.symm.trans h6)
 ·obtain⟨B,hB,hq2⟩:=List.mem_filterMap.1 hq;unfold blkAt at hq2;split at hq2
  ·rename_i cs t fr hc
   cases hq2;refine⟨hc,?_⟩;rw[hBs]at hB;rcases List.mem_append.1 hB with hB|hB
   ·obtain⟨i,hi,rfl⟩:=List.mem_map.1 hB;have hk:∀i,i<19→kNum i≠0∧kNum i≠24:=by decide
    exact hk i (List.mem_range.1 hi)
   ·rcases List.mem_append.1 hB with hB|hB
    ·obtain⟨i,hi,rfl⟩:=List.mem_map.1 hB;obtain⟨s,-,h3,-⟩:=hA i (List.mem_range.1 hi);exact⟨txt_ne pow_num hpw h3,txt_ne rows_num hrw h3⟩
    ·simp only[List.mem_cons,List.not_mem_nil,or_false]at hB;rcases hB with rfl|rfl|rfl<;>exact⟨fun h=>by simp at h,fun h=>by simp at h⟩
  ·cases hq2
noncomputable def low:Nat:=(World.holding Tryz.prog default ⟨#[],#[],[]⟩).heap.size
def natsOf:DataW Unit→List Lit
 |.agg l=>l.filterMap fun|.lit x=>some x|_=>none
 |_=>[]
def cellOf:Lit→Value
 |.int k n=>.int k n
 |.bool b=>.bool b
 |_=>.nilIface
def xTxt(i:Nat):List UInt8:=if i<19 then kTxt i else if i=19 then txt Rows.laid_strconv_ErrSyntax else txt Rows.laid_strconv_ErrRange
def xNum(i:Nat):Nat:=if i<19 then kNum i else if i=19 then 25 else 26
noncomputable def laidWorld(os:Os):World:=
 let w0:=World.holding Tryz.prog os ⟨((List.range 21).map fun i=>Obj.cells #[.string ⟨(xTxt i).toArray⟩] 445).toArray,#[],[]⟩
 {w0 with heap:=((((((List.range 21).foldl (fun(h:Array Obj) i=>h.modify (xNum i) fun
  |.cells _ t frozen=>.cells #[.iface 443 (.pointer (some ⟨low+i,0,none⟩))] t frozen
  |o=>o) w0.heap).modify 19 fun
  |.cells _ t frozen=>.cells #[.iface 255 (.agg #[.pointer (some ⟨27,70,none⟩)])] t frozen
  |o=>o).modify 24 fun
  |.cells _ t frozen=>.cells (rowsTab.map fun z=>Value.int .i64 z).toArray t frozen
  |o=>o).modify 0 fun
  |.cells _ t frozen=>.cells ((natsOf Rows.laid_internal_strconv_uint64pow10).map cellOf).toArray t frozen
  |o=>o).modify 21 fun
  |.cells _ t frozen=>.cells ((natsOf Rows.laid_math_bits_deBruijn32tab).map cellOf).toArray t frozen
  |o=>o).modify 22 fun
  |.cells _ t frozen=>.cells ((natsOf Rows.laid_math_bits_deBruijn64tab).map cellOf).toArray t frozen
  |o=>o}
end Go.Proofs.YtglihimiidiacaaGreatDoor.Ev8
