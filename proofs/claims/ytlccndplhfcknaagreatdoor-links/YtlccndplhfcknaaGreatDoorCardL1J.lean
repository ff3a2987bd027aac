import Derived.Test.YtlccndplhfcknaaGreatDoorArgJ
import Derived.Test.YtlccndplhfcknaaGreatDoorJ1J
import Derived.Test.YtlccndplhfcknaaGreatDoorCards
import Derived.Test.YtlccndplhfcknaaGreatDoorKindKJ
import Derived.Stop.LaidErr
import Derived.LaidHandle
import Derived.OpenShut
import Derived.ProofKit
import Derived.Deep.DeepHandedRow
import Derived.Deep.DeepLaidRun
import Derived.Carry
set_option maxRecDepth 100000
namespace Go.Proofs.YtlccndplhfcknaaGreatDoor
open Go.RowKit Go.Sort Go.ChangeShapes Go.WideShapes
theorem cells_obj:Tryz.prog.cellsOf 44=3:=by kernel_rfl
theorem bytes_obj:Tryz.prog.bytesOf 44=64:=by kernel_rfl
theorem cells_imps:Tryz.prog.cellsOf 42=1:=by kernel_rfl
theorem cells_globs:Tryz.prog.cellsOf 41=1:=by kernel_rfl
theorem objc_of{H:Type}{enc:TypeId×Value->H}{w:World}{spare:Nat->Bool}{held:Bool}{fuel:Nat}{cs:List Value}{y:DataW H×List MemPlace}(hl:cs.length=3)(h:DataW.trod enc Tryz.prog w 0 spare held fuel 44 cs=some y)(hw:Wt 44 y.1):
 ∃(O:LObj) (ip:Option Addr) (ic:Nat) (gp:Option Addr) (gc:Nat),cs[0]?=some (.string O.name)∧cs[1]?=some (.slice ip O.imps.length ic)∧cs[2]?=some (.slice gp O.globs.length gc)∧ObjAt w (.agg #[.string O.name,.slice ip O.imps.length ic,.slice gp O.globs.length gc]) O∧SizedO O.imps O.globs:=by
 obtain⟨y0,y1,y2,n,rfl,-,h0,h1,h2⟩:=Go.Deep.trod_struct3 Tryz.underlying44 h;obtain⟨s,e0,hs⟩:=one_string Tryz.underlying9 h0;obtain⟨v1,e1,f1⟩:=one_cell (cs:=cs) (i:=1) cells_imps (by omega);obtain⟨v2,e2,f2⟩:=one_cell (cs:=cs) (i:=2) cells_globs (by omega);have h1':DataW.trod enc Tryz.prog w 0 spare held n 42 ((cs.drop 1).take (Tryz.prog.cellsOf 42))=some y1:=h1;have h2':DataW.trod enc Tryz.prog w 0 spare held n 41 ((cs.drop 2).take (Tryz.prog.cellsOf 41))=some y2:=h2;rw[e1]at h1';rw[e2]at h2';obtain⟨li,hI,hI2⟩:=imps_of h1' (hw.part Tryz.underlying44 (j:=1) rfl rfl);obtain⟨lg,hG,hG2⟩:=globs_of h2' (hw.part Tryz.underlying44 (j:=2) rfl rfl);obtain⟨ip,ic,rfl,-⟩:=id hI;obtain⟨gp,gc,rfl,-⟩:=id hG;exact⟨⟨s,li,lg⟩,ip,ic,gp,gc,one_at cells_string e0,f1,f2,⟨_,_,rfl,hs,hI,hG⟩,hI2,hG2⟩
theorem objs_of{H:Type}{enc:TypeId×Value->H}{w:World}{spare:Nat->Bool}{held:Bool}{fuel:Nat}{v:Value}{x:DataW H×List MemPlace}(h:DataW.trod enc Tryz.prog w 0 spare held fuel 22 [v]=some x)(hw:Wt 22 x.1):∃l:List LObj,ObjsAt w v l∧l.length*64<=140737488351232∧∀O∈l,SizedO O.imps O.globs:=by
 rcases slice_get Tryz.underlying22 cells_obj (by omega) h hw with rfl|⟨a,len,cap,n,rfl,hs,hx⟩
 ·exact⟨[],⟨none,0,rfl,by simp[short],λi hi=>absurd hi (by simp)⟩,by simp,λc hc=>by cases hc⟩
 ·rw[bytes_obj]at hs;have:Inhabited LObj:=⟨⟨⟨#[]⟩,[],[]⟩⟩;obtain⟨f,hf⟩:=Go.Deep.choose_lt (α:=LObj) (n:=len) (p:=λi O=>∃(b o:Nat) (ip:Option Addr) (ic:Nat) (gp:Option Addr) (gc:Nat),a=⟨b,o,none⟩∧w.cell? ⟨b,o+i*3,none⟩=some (.string O.name)∧w.cell? ⟨b,o+i*3+1,none⟩=some (.slice ip O.imps.length ic)∧w.cell? ⟨b,o+i*3+2,none⟩=some (.slice gp O.globs.length gc)∧ObjAt w (.agg #[.string O.name,.slice ip O.imps.length ic,.slice gp O.globs.length gc]) O∧SizedO O.imps O.globs) (λi hi=>by
   obtain⟨b,o,cs,y,rfl,hl,hc,ht,hwt⟩:=hx i hi;obtain⟨O,ip,ic,gp,gc,h0,h1,h2,h3⟩:=objc_of hl ht hwt;exact⟨O,b,o,ip,ic,gp,gc,rfl,(hc 0 (by omega)).trans h0,(hc 1 (by omega)).trans h1,(hc 2 (by omega)).trans h2,h3⟩)
  have hl:((List.range len).map f).length=len:=by simp
  refine⟨(List.range len).map f,⟨some a,cap,by rw[hl],?_,λi hi=>?_⟩,?_,λc hc=>?_⟩
  ·rw[hl];simp only[short];unfold reachBytes at hs;omega
  ·rw[hl]at hi;obtain⟨b,o,ip,ic,gp,gc,e,h0,h1,h2,h3,-⟩:=hf i hi;have e2:((List.range len).map f)[i]'(by rw[hl];exact hi)=f i:=by simp
   rw[e2];exact⟨b,o,ip,ic,gp,gc,by rw[e],h0,h1,h2,h3⟩
  ·rw[hl];unfold reachBytes at hs;omega
  ·simp only[List.mem_map,List.mem_range]at hc;obtain⟨i,hi,rfl⟩:=hc;obtain⟨-,-,-,-,-,-,-,-,-,-,-,h⟩:=hf i hi;exact h
theorem laid_mem{P:Program}{W:World}{x:String×DataW Unit}:∀{l:List (String×DataW Unit)},laidMet P l W->x∈l->∃r,laidMet P (x::r) W
 |y::r,h,hx=>by
  rcases List.mem_cons.1 hx with rfl|hx
  ·exact⟨r,h⟩
  ·exact laid_mem h.tail hx
theorem star: "*"++ "errors.errorString"= "*errors.errorString":=by decide
theorem Tryz.errRow(u:TypeId)(h:Tryz.prog.typeName? 3 u=some "*errors.errorString"):u=234:=
 typeName_ptr_named (nm:= "errors.errorString") (by rw[star];kernel_rfl) (by kernel_rfl) (by decide) u (by rw[star];exact h)
theorem cells_errS:Tryz.prog.cellsOf 254=1:=by kernel_rfl
theorem sent_get{W:World}{n:String}{g:Nat}{text:List UInt8}{l:List (String×DataW Unit)}(h:laidMet Tryz.prog l W)(hm:(n,DataW.iface "*errors.errorString" (.ptr (.agg [.lit (.string text)])))∈l)(hg:Tryz.prog.globalNamed n=some g)(ht:(Tryz.prog.globals[g]?).map (·.type)=some 57):
 ∃(a:Addr) (s:ByteArray),W.cell? ⟨g,0,none⟩=some (errE a)∧W.cell? a=some (.string s)∧s.data.toList=text∧∃c t,W.heap[a.block]?=some (.cells c t (0,0)):=by
 obtain⟨r,h⟩:=laid_mem h hm;obtain⟨ps,⟨g0,t0,cs0,f0,p0,q0,hg0,ht0,hv0,hd0,_,e0⟩,_,hrows⟩:=h;obtain rfl:=Option.some.inj (hg.symm.trans hg0);obtain rfl:=Option.some.inj (ht.symm.trans ht0);subst e0;obtain⟨l0⟩:=cs0;have ok0:∀u v,l0=[.iface u v]->Value.okWide Tryz.prog W .any 0 u v:=λu v e=>by
  subst e;exact(hrows g 0 (by simp[MemPlace.row])).2 u v (by simpa using World.var?_cell hg0 hv0 0)
 obtain⟨a0,s0,rfl,hc0,hs0,hz0,rfl⟩:=errorString_of_trod Tryz.underlying57 Tryz.errRow Tryz.underlying234 Tryz.underlying254 rfl rfl Tryz.underlying9 cells_errS cells_string hd0 ok0;refine⟨a0,s0,by simpa[errE]using World.var?_cell hg0 hv0 0,hc0,hs0,(hrows a0.block a0.off ?_).1⟩;simp[MemPlace.row]
def L13:List (String×DataW Unit):=[("math/bits.deBruijn32tab",Rows.laid_math_bits_deBruijn32tab),("math/bits.deBruijn64tab",Rows.laid_math_bits_deBruijn64tab),("internal/strconv.uint64pow10",Rows.laid_internal_strconv_uint64pow10),("tarn/fault.Long",Rows.laid_tarn_fault_Long),("tarn/fault.Syntax",Rows.laid_tarn_fault_Syntax),("tarn/fault.Deep",Rows.laid_tarn_fault_Deep),("tarn/fault.Twice",Rows.laid_tarn_fault_Twice),("tarn/fault.Name",Rows.laid_tarn_fault_Name),("tarn/fault.Short",Rows.laid_tarn_fault_Short),("tarn/fault.Sum",Rows.laid_tarn_fault_Sum),("tarn/fault.Form",Rows.laid_tarn_fault_Form),("tarn/fault.Varint",Rows.laid_tarn_fault_Varint),("tarn/fault.Order",Rows.laid_tarn_fault_Order),("tarn/fault.More",Rows.laid_tarn_fault_More),("tarn/fault.Index",Rows.laid_tarn_fault_Index),("tarn/fault.Jump",Rows.laid_tarn_fault_Jump),("tarn/fault.Depth",Rows.laid_tarn_fault_Depth),("tarn/fault.Value",Rows.laid_tarn_fault_Value),("tarn/fault.Missing",Rows.laid_tarn_fault_Missing),("tarn/fault.Arity",Rows.laid_tarn_fault_Arity),("tarn/fault.Entry",Rows.laid_tarn_fault_Entry),("tarn/fault.Big",Rows.laid_tarn_fault_Big),("tarn/object.rows",Rows.laid_tarn_object_rows)]
theorem laid_split{W:World}(h:laidMetH Tryz.prog Rows.linksRow.laid W):laidMet Tryz.prog L13 W∧handlesMet Tryz.prog [("errors.errorType",Rows.laid_errors_errorType)] W:=h
def txt:DataW Unit->List UInt8
 |.iface _ (.ptr (.agg [.lit (.string b)]))=>b
 |_=>[]
def kTxt(i:Nat):List UInt8:=([Rows.laid_tarn_fault_Value,Rows.laid_tarn_fault_Index,Rows.laid_tarn_fault_Jump,Rows.laid_tarn_fault_Depth,Rows.laid_tarn_fault_Long,Rows.laid_tarn_fault_Name,Rows.laid_tarn_fault_Short,Rows.laid_tarn_fault_Sum,Rows.laid_tarn_fault_Form,Rows.laid_tarn_fault_Varint,Rows.laid_tarn_fault_Order,Rows.laid_tarn_fault_More,Rows.laid_tarn_fault_Syntax,Rows.laid_tarn_fault_Deep,Rows.laid_tarn_fault_Twice,Rows.laid_tarn_fault_Missing,Rows.laid_tarn_fault_Arity,Rows.laid_tarn_fault_Entry,Rows.laid_tarn_fault_Big].map txt).getD i []
theorem kTxt_ne:∀i,i<19->∀j,j<19->i≠j->kTxt i≠kTxt j:=by decide
theorem sents{W:World}(h:laidMet Tryz.prog L13 W):∀i,i<19->∃(a:Addr) (s:ByteArray),W.cell? ⟨kNum i,0,none⟩=some (errE a)∧W.cell? a=some (.string s)∧s.data.toList=kTxt i∧∃c t,W.heap[a.block]?=some (.cells c t (0,0))
 |0,_=>sent_get (n:= "tarn/fault.Value") h (List.mem_of_getElem? (i:=17) rfl) (by kernel_rfl) (by kernel_rfl)
 |1,_=>sent_get (n:= "tarn/fault.Index") h (List.mem_of_getElem? (i:=14) rfl) (by kernel_rfl) (by kernel_rfl)
 |2,_=>sent_get (n:= "tarn/fault.Jump") h (List.mem_of_getElem? (i:=15) rfl) (by kernel_rfl) (by kernel_rfl)
 |3,_=>sent_get (n:= "tarn/fault.Depth") h (List.mem_of_getElem? (i:=16) rfl) (by kernel_rfl) (by kernel_rfl)
 |4,_=>sent_get (n:= "tarn/fault.Long") h (List.mem_of_getElem? (i:=3) rfl) (by kernel_rfl) (by kernel_rfl)
 |5,_=>sent_get (n:= "tarn/fault.Name") h (List.mem_of_getElem? (i:=7) rfl) (by kernel_rfl) (by kernel_rfl)
 |6,_=>sent_get (n:= "tarn/fault.Short") h (List.mem_of_getElem? (i:=8) rfl) (by kernel_rfl) (by kernel_rfl)
 |7,_=>sent_get (n:= "tarn/fault.Sum") h (List.mem_of_getElem? (i:=9) rfl) (by kernel_rfl) (by kernel_rfl)
 |8,_=>sent_get (n:= "tarn/fault.Form") h (List.mem_of_getElem? (i:=10) rfl) (by kernel_rfl) (by kernel_rfl)
 |9,_=>sent_get (n:= "tarn/fault.Varint") h (List.mem_of_getElem? (i:=11) rfl) (by kernel_rfl) (by kernel_rfl)
 |10,_=>sent_get (n:= "tarn/fault.Order") h (List.mem_of_getElem? (i:=12) rfl) (by kernel_rfl) (by kernel_rfl)
 |11,_=>sent_get (n:= "tarn/fault.More") h (List.mem_of_getElem? (i:=13) rfl) (by kernel_rfl) (by kernel_rfl)
 |12,_=>sent_get (n:= "tarn/fault.Syntax") h (List.mem_of_getElem? (i:=4) rfl) (by kernel_rfl) (by kernel_rfl)
 |13,_=>sent_get (n:= "tarn/fault.Deep") h (List.mem_of_getElem? (i:=5) rfl) (by kernel_rfl) (by kernel_rfl)
 |14,_=>sent_get (n:= "tarn/fault.Twice") h (List.mem_of_getElem? (i:=6) rfl) (by kernel_rfl) (by kernel_rfl)
 |15,_=>sent_get (n:= "tarn/fault.Missing") h (List.mem_of_getElem? (i:=18) rfl) (by kernel_rfl) (by kernel_rfl)
 |16,_=>sent_get (n:= "tarn/fault.Arity") h (List.mem_of_getElem? (i:=19) rfl) (by kernel_rfl) (by kernel_rfl)
 |17,_=>sent_get (n:= "tarn/fault.Entry") h (List.mem_of_getElem? (i:=20) rfl) (by kernel_rfl) (by kernel_rfl)
 |18,_=>sent_get (n:= "tarn/fault.Big") h (List.mem_of_getElem? (i:=21) rfl) (by kernel_rfl) (by kernel_rfl)
 |i+19,h=>absurd h (by omega)
theorem Tryz.et:Tryz.prog.globalNamed "errors.errorType"=some 19:=by kernel_rfl
theorem Tryz.rt:(Tryz.prog.cutTypes.find? (·.1== "internal/reflectlite.rtype")).map (·.2)=some 154:=by kernel_rfl
theorem Tryz.tsize:Tryz.prog.types.size=265:=by kernel_rfl
theorem Tryz.oneRow:((List.range 265).filter λt=>Tryz.prog.rowNamed t [101,114,114,111,114])=[57]:=by kernel_rfl
theorem Tryz.hErr:typeHandle Tryz.prog 57=.pointer (some ⟨25,57,none⟩):=by kernel_rfl
theorem handle_of_laid{W:World}(h:handlesMet Tryz.prog [("errors.errorType",Rows.laid_errors_errorType)] W):W.cell? ⟨19,0,none⟩=some (.iface 154 (.agg #[.pointer (some ⟨25,57,none⟩)])):=by
 obtain⟨name,u,ty,e1,e2,e3,e4,e5⟩:=h _ (List.mem_singleton.2 rfl);have en:name=[101,114,114,111,114]:=(Option.some.inj e1).symm;subst en;obtain rfl:=Option.some.inj (Tryz.rt.symm.trans e2);have hm:ty∈(List.range 265).filter λt=>Tryz.prog.rowNamed t [101,114,114,111,114]:=List.mem_filter.2 ⟨List.mem_range.2 (by rw[<-Tryz.tsize];exact e3),e4⟩;rw[Tryz.oneRow]at hm;obtain rfl:=List.mem_singleton.1 hm;rw[Tryz.hErr]at e5;simpa using World.var?_cell Tryz.et e5 0
theorem sentAt{W:World}(h:laidMetH Tryz.prog Rows.linksRow.laid W):∃adr,SentAt W adr:=by
 obtain⟨h1,h2⟩:=laid_split h;obtain⟨adr,hA⟩:=Go.Deep.choose_lt (sents h1);refine⟨adr,λi ⟨_,hi⟩=>?_,λi ⟨_,hi⟩=>?_,λi j ⟨_,hi⟩ ⟨_,hj⟩ hne e=>?_,handle_of_laid h2⟩
 ·obtain⟨s,h,-⟩:=hA i hi;exact h
 ·obtain⟨s,-,-,-,h⟩:=hA i hi;exact h
 ·obtain⟨s,-,h3,h4,-⟩:=hA i hi;obtain⟨s',-,h5,h6,-⟩:=hA j hj;rw[e]at h3;rw[h3]at h5;simp only[Option.some.injEq,Value.string.injEq]at h5;subst h5;exact kTxt_ne i hi j hj hne (h4.symm.trans h6)
theorem ints_of_struct{W:World}{sp:Nat->Bool}{held:Bool}{e:TypeId}{fs:Array Field}{fuel:Nat}{cs:List Value}{zs:List Int}{p:List MemPlace}(hs:Tryz.prog.underlying e=some (.struct fs))
 (hone:∀(i:Nat) (f:Field),fs[i]?=some f->f.offset=i∧Tryz.prog.cellsOf f.type=1) (hint:∀(i:Nat) (f:Field),fs[i]?=some f->Tryz.prog.underlying f.type=some (.int .i64))
 (h:DataW.trod (λ_=>()) Tryz.prog W 0 sp held fuel e cs=some (.agg (zs.map λz=>.lit (.int .i64 z)),p)):∀i,i<fs.size->cs[i]?=some (.int .i64 (zs.getD i 0)):=by
 intro i hi;obtain⟨xs,n,-,hx,-,hlen,hf⟩:=DataW.trod_struct hs h;have hfi:fs[i]?=some fs[i]:=Array.getElem?_eq_getElem hi;obtain⟨ho,hc⟩:=hone i _ hfi;have h1:=hf i _ hfi;rw[ho,hc,List.getElem?_eq_getElem (by omega)]at h1;obtain⟨z,e1,e2,-⟩:=DataW.trod_int (hint i _ hfi) h1;have e3:zs.map (λz=>(DataW.lit (.int .i64 z):DataW Unit))=xs.map (·.1):=by
  have:=congrArg Prod.fst hx;simpa using this
 have e4:(zs.map (λz=>(DataW.lit (.int .i64 z):DataW Unit)))[i]?=some (.lit (.int .i64 z)):=by
  rw[e3,List.getElem?_map,List.getElem?_eq_getElem (by omega),e2];rfl
 rw[List.getElem?_map]at e4;obtain⟨z',h5,h6⟩:=Option.map_eq_some_iff.1 e4;simp only[DataW.lit.injEq,Lit.int.injEq,true_and]at h6;subst h6;rw[one_at rfl e1,List.getD,h5];rfl
def rowData(k:Nat):DataW Unit:=.agg (((List.range 7).map λj=>rowN k j).map λz=>.lit (.int .i64 z))
theorem rows_data:(Rows.laid_tarn_object_rows:DataW Unit)=.agg ((List.range 21).map rowData):=by rfl
theorem cells_row:Tryz.prog.cellsOf 198=7:=by kernel_rfl
theorem fields_ok:(match Tryz.prog.underlying 198 with|some (.struct fs)=>(List.range fs.size).all (λi=>match fs[i]? with|some f=>f.offset==i && Tryz.prog.cellsOf f.type==1 && (match Tryz.prog.underlying f.type with|some (.int .i64)=>true|_=>false)|none=>false) && fs.size==7|_=>false)=true:=by kernel_rfl
theorem tabAt13{W:World}(h1:laidMet Tryz.prog L13 W):TabAt W:=by
 obtain⟨r,h2⟩:=laid_mem (x:=("tarn/object.rows",Rows.laid_tarn_object_rows)) h1 (List.mem_of_getElem? (i:=22) rfl);obtain⟨ps,⟨g0,t0,cs0,f0,p0,q0,hg0,ht0,hv0,hd0,_,e0⟩,_,hrows⟩:=h2;have hg:Tryz.prog.globalNamed "tarn/object.rows"=some 20:=by kernel_rfl
 have ht:(Tryz.prog.globals[20]?).map (·.type)=some 199:=by kernel_rfl
 obtain rfl:=Option.some.inj (hg.symm.trans hg0);obtain rfl:=Option.some.inj (ht.symm.trans ht0);rw[rows_data]at hd0;obtain⟨xs,m,-,hx,hl,hlen,hf⟩:=DataW.trod_array Tryz.underlying199 hd0;obtain⟨fs,hs⟩:∃fs,Tryz.prog.underlying 198=some (.struct fs):=⟨_,Tryz.underlying198⟩;have hok:=fields_ok;rw[hs]at hok;simp only[Bool.and_eq_true,List.all_eq_true,List.mem_range,beq_iff_eq]at hok;obtain⟨hok,h7⟩:=hok;have hone:∀(i:Nat) (f:Field),fs[i]?=some f->(f.offset=i∧Tryz.prog.cellsOf f.type=1)∧Tryz.prog.underlying f.type=some (.int .i64):=by
  intro i f hi;have hlt:i<fs.size:=(Array.getElem?_eq_some_iff.1 hi).1;have:=hok i hlt;rw[hi]at this;simp only[Bool.and_eq_true,beq_iff_eq]at this;refine⟨this.1,?_⟩;have h3:=this.2;split at h3
  ·rename_i h4
   exact h4
  ·cases h3
 intro i hi;have hk:i / 7<21:=by omega
 have h3:=hf (i / 7) hk;rw[cells_row,List.getElem?_eq_getElem (by omega)]at h3;have h4:(xs.map (·.1))[i / 7]?=some (rowData (i / 7)):=by
  have:=congrArg Prod.fst hx;simp only[DataW.agg.injEq]at this;rw[<-this,List.getElem?_map,List.getElem?_range hk];rfl
 rw[List.getElem?_map,List.getElem?_eq_getElem (by omega)]at h4;simp only[Option.map_some,Option.some.injEq]at h4;have h5:DataW.trod (λ_=>()) Tryz.prog W 0 (λ_=>true) false m 198 ((cs0.toList.drop (i / 7*7)).take 7)=some (.agg (((List.range 7).map λj=>rowN (i / 7) j).map λz=>.lit (.int .i64 z)),(xs[i / 7]'(by omega)).2):=by
  rw[h3];exact congrArg some (Prod.ext h4 rfl)
 have h6:=ints_of_struct hs (λi f h=>(hone i f h).1) (λi f h=>(hone i f h).2) h5 (i % 7) (by omega);have h8:=World.var?_cell hg0 hv0 i;rw[h8];rw[List.getElem?_take,if_pos (by omega),List.getElem?_drop,show i / 7*7+i % 7=i by omega]at h6;have h9:((List.range 7).map λj=>rowN (i / 7) j).getD (i % 7) 0=rowsTab.getD i 0:=by
  rw[List.getD,List.getElem?_map,List.getElem?_range (by omega)];simp only[Option.map_some,Option.getD_some,rowN];rw[show i / 7*7+i % 7=i by omega]
 rw[h9]at h6;simpa using h6
theorem tabAt{W:World}(h:laidMetH Tryz.prog Rows.linksRow.laid W):TabAt W:=tabAt13 (laid_split h).1
end Go.Proofs.YtlccndplhfcknaaGreatDoor
namespace Go.Proofs.YtlccndplhfcknaaGreatDoor
open Go.ChangeShapes Go.WideShapes Go.ChangeAt Go.RowKit
noncomputable def low:Nat:=(World.holding Tryz.prog default ⟨#[],#[],[]⟩).heap.size
def natsOf:DataW Unit->List Lit
 |.agg l=>l.filterMap fun|.lit x=>some x|_=>none
 |_=>[]
def cellOf:Lit->Value
 |.int k n=>.int k n
 |.bool b=>.bool b
 |_=>.nilIface
noncomputable def laidWorld(os:Os):World:=
 let w0:=World.holding Tryz.prog os ⟨((List.range 19).map λi=>Obj.cells #[.string ⟨(kTxt i).toArray⟩] 254).toArray,#[],[]⟩
 {w0 with heap:=((((((List.range 19).foldl (λ(h:Array Obj) i=>h.modify (kNum i) fun
  |.cells _ t frozen=>.cells #[.iface 234 (.pointer (some ⟨low+i,0,none⟩))] t frozen
  |o=>o) w0.heap).modify 19 fun
  |.cells _ t frozen=>.cells #[.iface 154 (.agg #[.pointer (some ⟨25,57,none⟩)])] t frozen
  |o=>o).modify 20 fun
  |.cells _ t frozen=>.cells (rowsTab.map λz=>Value.int .i64 z).toArray t frozen
  |o=>o).modify 22 fun
  |.cells _ t frozen=>.cells ((natsOf Rows.laid_internal_strconv_uint64pow10).map cellOf).toArray t frozen
  |o=>o).modify 23 fun
  |.cells _ t frozen=>.cells ((natsOf Rows.laid_math_bits_deBruijn32tab).map cellOf).toArray t frozen
  |o=>o).modify 24 fun
  |.cells _ t frozen=>.cells ((natsOf Rows.laid_math_bits_deBruijn64tab).map cellOf).toArray t frozen
  |o=>o}
def argL:Array Value:=#[.slice none 0 0,.string ⟨#[]⟩]
theorem laid_met(os:Os):laidMetH Tryz.prog Rows.linksRow.laid ((laidWorld os).forCall (λ_ _=>0) ⟨#[],argL,[]⟩).memory:=
 laidMetH_of_parts (laidMet_of_run3 8 (by kernel_rfl) (by kernel_rfl) (by kernel_rfl)) (by kernel_rfl)
theorem reads(os:Os){H:Type}(enc:TypeId×Value->H):∃places,DataW.whole enc Tryz.prog ((laidWorld os).forCall (λ_ _=>0) ⟨#[],argL,[]⟩).memory Tryz.f3.params.toList Rows.linksSpec.vars false argL.toList 8=some ([.nil,.lit (.string [])],[],places):=
 ⟨[],by kernel_rfl⟩
end Go.Proofs.YtlccndplhfcknaaGreatDoor
