import Derived.Test.YtcpcplaeaimmpaaGreatDoorCards
import Derived.Test.YtcpcplaeaimmpaaGreatDoorCk7J
import Derived.Stop.LaidErr
import Derived.LaidHandle
import Derived.OpenShut
set_option maxRecDepth 100000
set_option maxHeartbeats 8000000
namespace Go.Proofs.YtcpcplaeaimmpaaGreatDoor
open Go.RowKit Go.Sort Go.ChangeShapes Go.WideShapes
theorem laid_mem{P:Program}{W:World}{x:String×DataW Unit}:∀{l:List (String×DataW Unit)},laidMet P l W->x∈l->∃r,laidMet P (x::r) W
 |y::r,h,hx=>by
  rcases List.mem_cons.1 hx with rfl|hx
  ·exact⟨r,h⟩
  ·exact laid_mem h.tail hx
theorem star: "*"++ "errors.errorString"= "*errors.errorString":=by decide
theorem Tryz.errRow(u:TypeId)(h:Tryz.prog.typeName? 3 u=some "*errors.errorString"):u=447:=
 typeName_ptr_named (nm:= "errors.errorString") (by rw[star];kernel_rfl) (by kernel_rfl) (by decide) u (by rw[star];exact h)
theorem cells_errS:Tryz.prog.cellsOf 449=1:=by kernel_rfl
theorem sent_get{W:World}{n:String}{g:Nat}{text:List UInt8}{l:List (String×DataW Unit)}(h:laidMet Tryz.prog l W)(hm:(n,DataW.iface "*errors.errorString" (.ptr (.agg [.lit (.string text)])))∈l)(hg:Tryz.prog.globalNamed n=some g)(ht:(Tryz.prog.globals[g]?).map (·.type)=some 49):
 ∃(a:Addr) (s:ByteArray),W.cell? ⟨g,0,none⟩=some (errE a)∧W.cell? a=some (.string s)∧s.data.toList=text∧∃c t,W.heap[a.block]?=some (.cells c t (0,0)):=by
 obtain⟨r,h⟩:=laid_mem h hm;obtain⟨ps,⟨g0,t0,cs0,f0,p0,q0,hg0,ht0,hv0,hd0,_,e0⟩,_,hrows⟩:=h;obtain rfl:=Option.some.inj (hg.symm.trans hg0);obtain rfl:=Option.some.inj (ht.symm.trans ht0);subst e0;obtain⟨l0⟩:=cs0;have ok0:∀u v,l0=[.iface u v]->Value.okWide Tryz.prog W .any 0 u v:=λu v e=>by
  subst e;exact(hrows g 0 (by simp[MemPlace.row])).2 u v (by simpa using World.var?_cell hg0 hv0 0)
 obtain⟨a0,s0,rfl,hc0,hs0,hz0,rfl⟩:=errorString_of_trod Tryz.underlying49 Tryz.errRow Tryz.underlying447 Tryz.underlying449 rfl rfl Tryz.underlying9 cells_errS cells_string hd0 ok0;refine⟨a0,s0,by simpa[errE]using World.var?_cell hg0 hv0 0,hc0,hs0,(hrows a0.block a0.off ?_).1⟩;simp[MemPlace.row]
def L13:List (String×DataW Unit):=[("math/bits.deBruijn32tab",Rows.laid_math_bits_deBruijn32tab),("math/bits.deBruijn64tab",Rows.laid_math_bits_deBruijn64tab),("internal/strconv.uint64pow10",Rows.laid_internal_strconv_uint64pow10),("strconv.ErrRange",Rows.laid_strconv_ErrRange),("strconv.ErrSyntax",Rows.laid_strconv_ErrSyntax),("tarn/fault.Long",Rows.laid_tarn_fault_Long),("tarn/fault.Syntax",Rows.laid_tarn_fault_Syntax),("tarn/fault.Deep",Rows.laid_tarn_fault_Deep),("tarn/fault.Twice",Rows.laid_tarn_fault_Twice),("tarn/fault.Name",Rows.laid_tarn_fault_Name),("tarn/fault.Short",Rows.laid_tarn_fault_Short),("tarn/fault.Sum",Rows.laid_tarn_fault_Sum),("tarn/fault.Form",Rows.laid_tarn_fault_Form),("tarn/fault.Varint",Rows.laid_tarn_fault_Varint),("tarn/fault.Order",Rows.laid_tarn_fault_Order),("tarn/fault.More",Rows.laid_tarn_fault_More),("tarn/fault.Index",Rows.laid_tarn_fault_Index),("tarn/fault.Jump",Rows.laid_tarn_fault_Jump),("tarn/fault.Depth",Rows.laid_tarn_fault_Depth),("tarn/fault.Value",Rows.laid_tarn_fault_Value),("tarn/fault.Missing",Rows.laid_tarn_fault_Missing),("tarn/fault.Arity",Rows.laid_tarn_fault_Arity),("tarn/fault.Entry",Rows.laid_tarn_fault_Entry),("tarn/fault.Big",Rows.laid_tarn_fault_Big),("tarn/object.rows",Rows.laid_tarn_object_rows)]
theorem laid_split{W:World}(h:laidMetH Tryz.prog Rows.exactRow.laid W):laidMet Tryz.prog L13 W∧handlesMet Tryz.prog [("errors.errorType",Rows.laid_errors_errorType)] W:=h
def txt:DataW Unit->List UInt8
 |.iface _ (.ptr (.agg [.lit (.string b)]))=>b
 |_=>[]
def kTxt(i:Nat):List UInt8:=([Rows.laid_tarn_fault_Value,Rows.laid_tarn_fault_Index,Rows.laid_tarn_fault_Jump,Rows.laid_tarn_fault_Depth,Rows.laid_tarn_fault_Long,Rows.laid_tarn_fault_Name,Rows.laid_tarn_fault_Short,Rows.laid_tarn_fault_Sum,Rows.laid_tarn_fault_Form,Rows.laid_tarn_fault_Varint,Rows.laid_tarn_fault_Order,Rows.laid_tarn_fault_More,Rows.laid_tarn_fault_Syntax,Rows.laid_tarn_fault_Deep,Rows.laid_tarn_fault_Twice,Rows.laid_tarn_fault_Missing,Rows.laid_tarn_fault_Arity,Rows.laid_tarn_fault_Entry,Rows.laid_tarn_fault_Big].map txt).getD i []
theorem kTxt_ne:∀i,i<19->∀j,j<19->i≠j->kTxt i≠kTxt j:=by decide
theorem sents{W:World}(h:laidMet Tryz.prog L13 W):∀i,i<19->∃(a:Addr) (s:ByteArray),W.cell? ⟨kNum i,0,none⟩=some (errE a)∧W.cell? a=some (.string s)∧s.data.toList=kTxt i∧∃c t,W.heap[a.block]?=some (.cells c t (0,0))
 |0,_=>sent_get (n:= "tarn/fault.Value") h (List.mem_of_getElem? (i:=19) rfl) (by kernel_rfl) (by kernel_rfl)
 |1,_=>sent_get (n:= "tarn/fault.Index") h (List.mem_of_getElem? (i:=16) rfl) (by kernel_rfl) (by kernel_rfl)
 |2,_=>sent_get (n:= "tarn/fault.Jump") h (List.mem_of_getElem? (i:=17) rfl) (by kernel_rfl) (by kernel_rfl)
 |3,_=>sent_get (n:= "tarn/fault.Depth") h (List.mem_of_getElem? (i:=18) rfl) (by kernel_rfl) (by kernel_rfl)
 |4,_=>sent_get (n:= "tarn/fault.Long") h (List.mem_of_getElem? (i:=5) rfl) (by kernel_rfl) (by kernel_rfl)
 |5,_=>sent_get (n:= "tarn/fault.Name") h (List.mem_of_getElem? (i:=9) rfl) (by kernel_rfl) (by kernel_rfl)
 |6,_=>sent_get (n:= "tarn/fault.Short") h (List.mem_of_getElem? (i:=10) rfl) (by kernel_rfl) (by kernel_rfl)
 |7,_=>sent_get (n:= "tarn/fault.Sum") h (List.mem_of_getElem? (i:=11) rfl) (by kernel_rfl) (by kernel_rfl)
 |8,_=>sent_get (n:= "tarn/fault.Form") h (List.mem_of_getElem? (i:=12) rfl) (by kernel_rfl) (by kernel_rfl)
 |9,_=>sent_get (n:= "tarn/fault.Varint") h (List.mem_of_getElem? (i:=13) rfl) (by kernel_rfl) (by kernel_rfl)
 |10,_=>sent_get (n:= "tarn/fault.Order") h (List.mem_of_getElem? (i:=14) rfl) (by kernel_rfl) (by kernel_rfl)
 |11,_=>sent_get (n:= "tarn/fault.More") h (List.mem_of_getElem? (i:=15) rfl) (by kernel_rfl) (by kernel_rfl)
 |12,_=>sent_get (n:= "tarn/fault.Syntax") h (List.mem_of_getElem? (i:=6) rfl) (by kernel_rfl) (by kernel_rfl)
 |13,_=>sent_get (n:= "tarn/fault.Deep") h (List.mem_of_getElem? (i:=7) rfl) (by kernel_rfl) (by kernel_rfl)
 |14,_=>sent_get (n:= "tarn/fault.Twice") h (List.mem_of_getElem? (i:=8) rfl) (by kernel_rfl) (by kernel_rfl)
 |15,_=>sent_get (n:= "tarn/fault.Missing") h (List.mem_of_getElem? (i:=20) rfl) (by kernel_rfl) (by kernel_rfl)
 |16,_=>sent_get (n:= "tarn/fault.Arity") h (List.mem_of_getElem? (i:=21) rfl) (by kernel_rfl) (by kernel_rfl)
 |17,_=>sent_get (n:= "tarn/fault.Entry") h (List.mem_of_getElem? (i:=22) rfl) (by kernel_rfl) (by kernel_rfl)
 |18,_=>sent_get (n:= "tarn/fault.Big") h (List.mem_of_getElem? (i:=23) rfl) (by kernel_rfl) (by kernel_rfl)
 |i+19,h=>absurd h (by omega)
theorem Tryz.et:Tryz.prog.globalNamed "errors.errorType"=some 19:=by kernel_rfl
theorem Tryz.rt:(Tryz.prog.cutTypes.find? (·.1== "internal/reflectlite.rtype")).map (·.2)=some 195:=by kernel_rfl
theorem Tryz.tsize:Tryz.prog.types.size=478:=by kernel_rfl
theorem Tryz.oneRow:((List.range 478).filter λt=>Tryz.prog.rowNamed t [101,114,114,111,114])=[49]:=by kernel_rfl
theorem Tryz.hErr:typeHandle Tryz.prog 49=.pointer (some ⟨27,49,none⟩):=by kernel_rfl
theorem handle_of_laid{W:World}(h:handlesMet Tryz.prog [("errors.errorType",Rows.laid_errors_errorType)] W):W.cell? ⟨19,0,none⟩=some (.iface 195 (.agg #[.pointer (some ⟨27,49,none⟩)])):=by
 obtain⟨name,u,ty,e1,e2,e3,e4,e5⟩:=h _ (List.mem_singleton.2 rfl);have en:name=[101,114,114,111,114]:=(Option.some.inj e1).symm;subst en;obtain rfl:=Option.some.inj (Tryz.rt.symm.trans e2);have hm:ty∈(List.range 478).filter λt=>Tryz.prog.rowNamed t [101,114,114,111,114]:=List.mem_filter.2 ⟨List.mem_range.2 (by rw[<-Tryz.tsize];exact e3),e4⟩;rw[Tryz.oneRow]at hm;obtain rfl:=List.mem_singleton.1 hm;rw[Tryz.hErr]at e5;simpa using World.var?_cell Tryz.et e5 0
theorem sentAt{W:World}(h:laidMetH Tryz.prog Rows.exactRow.laid W):∃adr,SentAt W adr:=by
 obtain⟨h1,h2⟩:=laid_split h;obtain⟨adr,hA⟩:=Go.Deep.choose_lt (sents h1);refine⟨adr,λi ⟨_,hi⟩=>?_,λi ⟨_,hi⟩=>?_,λi j ⟨_,hi⟩ ⟨_,hj⟩ hne e=>?_,handle_of_laid h2⟩
 ·obtain⟨s,h,-⟩:=hA i hi;exact h
 ·obtain⟨s,-,-,-,h⟩:=hA i hi;exact h
 ·obtain⟨s,-,h3,h4,-⟩:=hA i hi;obtain⟨s',-,h5,h6,-⟩:=hA j hj;rw[e]at h3;rw[h3]at h5;simp only[Option.some.injEq,Value.string.injEq]at h5;subst h5;exact kTxt_ne i hi j hj hne (h4.symm.trans h6)
theorem ints_of_struct{W:World}{sp:Nat->Bool}{held:Bool}{e:TypeId}{fs:Array Field}{fuel:Nat}{cs:List Value}{zs:List Int}{p:List MemPlace}(hs:Tryz.prog.underlying e=some (.struct fs))
 (hone:∀(i:Nat) (f:Field),fs[i]?=some f->f.offset=i∧Tryz.prog.cellsOf f.type=1) (hint:∀(i:Nat) (f:Field),fs[i]?=some f->Tryz.prog.underlying f.type=some (.int .i64))
 (h:DataW.trod (λ_=>()) Tryz.prog W 0 sp held fuel e cs=some (.agg (zs.map λz=>.lit (.int .i64 z)),p)):∀i,i<fs.size->cs[i]?=some (.int .i64 (zs.getD i 0)):=by
 intro i hi;obtain⟨xs,n,-,hx,-,hlen,hf⟩:=DataW.trod_struct hs h;have hfi:fs[i]?=some fs[i]:=Array.getElem?_eq_getElem hi;obtain⟨ho,hc⟩:=hone i _ hfi;have h1:=hf i _ hfi;rw[ho,hc,List.getElem?_eq_getElem (by omega)]at h1;obtain⟨z,e1,e2,-⟩:=DataW.trod_int (hint i _ hfi) h1;have e3:zs.map (λz=>(DataW.lit (.int .i64 z):DataW Unit))=xs.map (·.1):=by
  have:=congrArg Prod.fst hx;simpa using this
 have e4:(zs.map (λz=>(DataW.lit (.int .i64 z):DataW Unit)))[i]?=some (.lit (.int .i64 z)):=by
  rw[e3,List.getElem?_map,List.getElem?_eq_getElem (by omega),e2];rfl
 rw[List.getElem?_map]at e4;obtain⟨z',h5,h6⟩:=Option.map_eq_some_iff.1 e4;simp only[DataW.lit.injEq,Lit.int.injEq,true_and]at h6;subst h6;rw[one_at rfl e1,List.getD,h5];rfl
def rowData(k:Nat):DataW Unit:=.agg (((List.range 7).map λj=>rowN k j).map λz=>.lit (.int .i64 z))
theorem rows_data:(Rows.laid_tarn_object_rows:DataW Unit)=.agg ((List.range 21).map rowData):=by rfl
theorem cells_row:Tryz.prog.cellsOf 262=7:=by kernel_rfl
theorem fields_ok:(match Tryz.prog.underlying 262 with|some (.struct fs)=>(List.range fs.size).all (λi=>match fs[i]? with|some f=>f.offset==i && Tryz.prog.cellsOf f.type==1 && (match Tryz.prog.underlying f.type with|some (.int .i64)=>true|_=>false)|none=>false) && fs.size==7|_=>false)=true:=by kernel_rfl
theorem tabAt13{W:World}(h1:laidMet Tryz.prog L13 W):TabAt W:=by
 obtain⟨r,h2⟩:=laid_mem (x:=("tarn/object.rows",Rows.laid_tarn_object_rows)) h1 (List.mem_of_getElem? (i:=24) rfl);obtain⟨ps,⟨g0,t0,cs0,f0,p0,q0,hg0,ht0,hv0,hd0,_,e0⟩,_,hrows⟩:=h2;have hg:Tryz.prog.globalNamed "tarn/object.rows"=some 20:=by kernel_rfl
 have ht:(Tryz.prog.globals[20]?).map (·.type)=some 263:=by kernel_rfl
 obtain rfl:=Option.some.inj (hg.symm.trans hg0);obtain rfl:=Option.some.inj (ht.symm.trans ht0);rw[rows_data]at hd0;obtain⟨xs,m,-,hx,hl,hlen,hf⟩:=DataW.trod_array Tryz.underlying263 hd0;obtain⟨fs,hs⟩:∃fs,Tryz.prog.underlying 262=some (.struct fs):=⟨_,Tryz.underlying262⟩;have hok:=fields_ok;rw[hs]at hok;simp only[Bool.and_eq_true,List.all_eq_true,List.mem_range,beq_iff_eq]at hok;obtain⟨hok,h7⟩:=hok;have hone:∀(i:Nat) (f:Field),fs[i]?=some f->(f.offset=i∧Tryz.prog.cellsOf f.type=1)∧Tryz.prog.underlying f.type=some (.int .i64):=by
  intro i f hi;have hlt:i<fs.size:=(Array.getElem?_eq_some_iff.1 hi).1;have:=hok i hlt;rw[hi]at this;simp only[Bool.and_eq_true,beq_iff_eq]at this;refine⟨this.1,?_⟩;have h3:=this.2;split at h3
  ·rename_i h4
   exact h4
  ·cases h3
 intro i hi;have hk:i / 7<21:=by omega
 have h3:=hf (i / 7) hk;rw[cells_row,List.getElem?_eq_getElem (by omega)]at h3;have h4:(xs.map (·.1))[i / 7]?=some (rowData (i / 7)):=by
  have:=congrArg Prod.fst hx;simp only[DataW.agg.injEq]at this;rw[<-this,List.getElem?_map,List.getElem?_range hk];rfl
 rw[List.getElem?_map,List.getElem?_eq_getElem (by omega)]at h4;simp only[Option.map_some,Option.some.injEq]at h4;have h5:DataW.trod (λ_=>()) Tryz.prog W 0 (λ_=>true) false m 262 ((cs0.toList.drop (i / 7*7)).take 7)=some (.agg (((List.range 7).map λj=>rowN (i / 7) j).map λz=>.lit (.int .i64 z)),(xs[i / 7]'(by omega)).2):=by
  rw[h3];exact congrArg some (Prod.ext h4 rfl)
 have h6:=ints_of_struct hs (λi f h=>(hone i f h).1) (λi f h=>(hone i f h).2) h5 (i % 7) (by omega);have h8:=World.var?_cell hg0 hv0 i;rw[h8];rw[List.getElem?_take,if_pos (by omega),List.getElem?_drop,show i / 7*7+i % 7=i by omega]at h6;have h9:((List.range 7).map λj=>rowN (i / 7) j).getD (i % 7) 0=rowsTab.getD i 0:=by
  rw[List.getD,List.getElem?_map,List.getElem?_range (by omega)];simp only[Option.map_some,Option.getD_some,rowN];rw[show i / 7*7+i % 7=i by omega]
 rw[h9]at h6;simpa using h6
theorem tabAt{W:World}(h:laidMetH Tryz.prog Rows.exactRow.laid W):TabAt W:=tabAt13 (laid_split h).1
theorem sentK{W:World}{adr:Nat->Addr}(h:SentAt W adr):SentK W adr:=⟨h.c,h.o,h.ne⟩
theorem sy_of{W:World}{adr:Nat->Addr}(h:laidMetH Tryz.prog Rows.exactRow.laid W)(hS:SentAt W adr):SY W adr:=by
 obtain⟨h1,-⟩:=laid_split h;obtain⟨a1,s1,e1,-⟩:=sent_get (n:= "strconv.ErrSyntax") (g:=25) h1 (List.mem_of_getElem? (i:=4) rfl) (by kernel_rfl) (by kernel_rfl);obtain⟨a2,s2,e2,-⟩:=sent_get (n:= "strconv.ErrRange") (g:=26) h1 (List.mem_of_getElem? (i:=3) rfl) (by kernel_rfl) (by kernel_rfl);exact⟨hS.c 12 (by omega),hS.c 13 (by omega),hS.c 14 (by omega),hS.c 5 (by omega),hS.c 4 (by omega),⟨_,e1,Or.inr ⟨_,_,rfl⟩⟩,⟨_,e2,Or.inr ⟨_,_,rfl⟩⟩⟩
theorem cell_low{w:World}{b:Nat}{v:Value}(h:w.cell? ⟨b,0,none⟩=some v):b<w.heap.size:=by
 rcases Nat.lt_or_ge b w.heap.size with h1|h1
 ·exact h1
 ·simp[World.cell?,Array.getElem?_eq_none h1]at h
theorem grd_of{W:World}(h:laidMetH Tryz.prog Rows.exactRow.laid W):∃adr,Grd W adr:=by
 obtain⟨adr,hS⟩:=sentAt h;exact⟨adr,hS,sentK hS,sy_of h hS,tabAt h,cell_low (tabAt h 0 (by omega))⟩
theorem one_int2{H:Type}{enc:TypeId×Value->H}{w:World}{spare:Nat->Bool}{held:Bool}{t:TypeId}{fuel:Nat}{cs:List Value}{y:DataW H×List MemPlace}(hu:Tryz.prog.underlying t=some (.int .i64))(h:DataW.trod enc Tryz.prog w 0 spare held fuel t cs=some y):∃n:Int,cs=[.int .i64 n]∧-9223372036854775808<=n∧n<=9223372036854775807:=by
 obtain⟨n,h1,-,h2⟩:=DataW.trod_int hu h;exact⟨n,h1,bounds_i64 h2⟩
theorem ins_of2{H:Type}{enc:TypeId×Value->H}{w:World}{spare:Nat->Bool}{held:Bool}{fuel:Nat}{cs:List Value}{y:DataW H×List MemPlace}(hl:cs.length=3)(h:DataW.trod enc Tryz.prog w 0 spare held fuel 89 cs=some y)(hw:Wt 89 y.1):
 ∃(x:LIns) (av:Value),cs[0]?=some (.int .i64 x.op)∧cs[1]?=some (.int .i64 x.a)∧cs[2]?=some av∧AltsAt w av x.alts∧x.alts.length*16<=140737488351232∧-9223372036854775808<=x.a∧x.a<=9223372036854775807:=by
 obtain⟨y0,y1,y2,n,rfl,-,h0,h1,h2⟩:=Go.Deep.trod_struct3 Tryz.underlying89 h;obtain⟨a,e0⟩:=one_int Tryz.underlying3 h0;obtain⟨b,e1,hb1,hb2⟩:=one_int2 Tryz.underlying3 h1;obtain⟨v,e2,e3⟩:=one_cell (cs:=cs) (i:=2) cells_alts (by omega);have h2':DataW.trod enc Tryz.prog w 0 spare held n 87 ((cs.drop 2).take (Tryz.prog.cellsOf 87))=some y2:=h2;rw[e2]at h2';obtain⟨l,hA,hA2⟩:=alts_of h2' (hw.part Tryz.underlying89 (j:=2) rfl rfl);exact⟨⟨a,b,l⟩,v,one_at cells_int e0,one_at cells_int e1,e3,hA,hA2,hb1,hb2⟩
def RangeC(l:List LIns):Prop:=∀c∈l,-9223372036854775808<=c.a∧c.a<=9223372036854775807
theorem code_of2{H:Type}{enc:TypeId×Value->H}{w:World}{spare:Nat->Bool}{held:Bool}{fuel:Nat}{v:Value}{x:DataW H×List MemPlace}(h:DataW.trod enc Tryz.prog w 0 spare held fuel 59 [v]=some x)(hw:Wt 59 x.1):∃l:List LIns,CodeAt w v l∧(l.length*40<=140737488351232∧∀c∈l,c.alts.length*16<=140737488351232)∧RangeC l:=by
 rcases slice_get Tryz.underlying59 cells_ins (by omega) h hw with rfl|⟨a,len,cap,n,rfl,hs,hx⟩
 ·exact⟨[],⟨none,0,rfl,by simp[short],λi hi=>absurd hi (by simp)⟩,⟨by simp,λc hc=>by cases hc⟩,λc hc=>by cases hc⟩
 ·rw[bytes_ins]at hs;have:Inhabited LIns:=⟨⟨0,0,[]⟩⟩;obtain⟨f,hf⟩:=Go.Deep.choose_lt (α:=LIns) (n:=len) (p:=λi x=>∃b o av,a=⟨b,o,none⟩∧w.cell? ⟨b,o+i*3,none⟩=some (.int .i64 x.op)∧w.cell? ⟨b,o+i*3+1,none⟩=some (.int .i64 x.a)∧w.cell? ⟨b,o+i*3+2,none⟩=some av∧AltsAt w av x.alts∧x.alts.length*16<=140737488351232∧-9223372036854775808<=x.a∧x.a<=9223372036854775807) (λi hi=>by
   obtain⟨b,o,cs,y,rfl,hl,hc,ht,hwt⟩:=hx i hi;obtain⟨x,av,h0,h1,h2,h3⟩:=ins_of2 hl ht hwt;exact⟨x,b,o,av,rfl,(hc 0 (by omega)).trans h0,(hc 1 (by omega)).trans h1,(hc 2 (by omega)).trans h2,h3⟩)
  have hl:((List.range len).map f).length=len:=by simp
  refine⟨(List.range len).map f,⟨some a,cap,by rw[hl],?_,λi hi=>?_⟩,⟨?_,λc hc=>?_⟩,λc hc=>?_⟩
  ·rw[hl];simp only[short];unfold reachBytes at hs;omega
  ·rw[hl]at hi;obtain⟨b,o,av,e,h0,h1,h2,h3,-⟩:=hf i hi;exact⟨b,o,av,by rw[e],by simpa using h0,by simpa using h1,h2,by simpa using h3⟩
  ·rw[hl];unfold reachBytes at hs;omega
  ·simp only[List.mem_map,List.mem_range]at hc;obtain⟨i,hi,rfl⟩:=hc;obtain⟨-,-,-,-,-,-,-,-,h,-⟩:=hf i hi;exact h
  ·simp only[List.mem_map,List.mem_range]at hc;obtain⟨i,hi,rfl⟩:=hc;obtain⟨-,-,-,-,-,-,-,-,-,h⟩:=hf i hi;exact h
theorem glob_of2{H:Type}{enc:TypeId×Value->H}{w:World}{spare:Nat->Bool}{held:Bool}{fuel:Nat}{cs:List Value}{y:DataW H×List MemPlace}(hl:cs.length=4)(h:DataW.trod enc Tryz.prog w 0 spare held fuel 61 cs=some y)(hw:Wt 61 y.1):
 ∃(x:LGlob) (cv:Value),cs[0]?=some (.string x.name)∧cs[1]?=some (.int .i64 x.arity)∧cs[2]?=some (.bool x.exp)∧cs[3]?=some cv∧CodeAt w cv x.code∧x.name.size<=maxLen∧(x.code.length*40<=140737488351232∧∀c∈x.code,c.alts.length*16<=140737488351232)∧RangeC x.code:=by
 obtain⟨y0,y1,y2,y3,n,rfl,-,h0,h1,h2,h3⟩:=Go.Joins.trod_struct4 Tryz.underlying61 h;obtain⟨a,e0,hs⟩:=one_string Tryz.underlying9 h0;obtain⟨b,e1⟩:=one_int Tryz.underlying3 h1;obtain⟨c,e2⟩:=one_bool Tryz.underlying4 h2;obtain⟨v,e3,e4⟩:=one_cell (cs:=cs) (i:=3) cells_code (by omega);have h3':DataW.trod enc Tryz.prog w 0 spare held n 59 ((cs.drop 3).take (Tryz.prog.cellsOf 59))=some y3:=h3;rw[e3]at h3';obtain⟨l,hA,hA2⟩:=code_of2 h3' (hw.part Tryz.underlying61 (j:=3) rfl rfl);exact⟨⟨a,b,c,l⟩,v,one_at cells_string e0,one_at cells_int e1,one_at cells_bool e2,e4,hA,hs,hA2⟩
theorem globs_of2{H:Type}{enc:TypeId×Value->H}{w:World}{spare:Nat->Bool}{held:Bool}{fuel:Nat}{v:Value}{x:DataW H×List MemPlace}(h:DataW.trod enc Tryz.prog w 0 spare held fuel 23 [v]=some x)(hw:Wt 23 x.1):∃l:List LGlob,GlobsAt w v l∧SizedG l∧∀g∈l,RangeC g.code:=by
 rcases slice_get Tryz.underlying23 cells_glob (by omega) h hw with rfl|⟨a,len,cap,n,rfl,hs,hx⟩
 ·exact⟨[],⟨none,0,rfl,by simp[short],λi hi=>absurd hi (by simp)⟩,by simp[SizedG],λg hg=>by cases hg⟩
 ·rw[bytes_glob]at hs;have:Inhabited LGlob:=⟨⟨⟨#[]⟩,0,false,[]⟩⟩;obtain⟨f,hf⟩:=Go.Deep.choose_lt (α:=LGlob) (n:=len) (p:=λi x=>∃b o cv,a=⟨b,o,none⟩∧w.cell? ⟨b,o+i*4,none⟩=some (.string x.name)∧w.cell? ⟨b,o+i*4+1,none⟩=some (.int .i64 x.arity)∧w.cell? ⟨b,o+i*4+2,none⟩=some (.bool x.exp)∧w.cell? ⟨b,o+i*4+3,none⟩=some cv∧CodeAt w cv x.code∧x.name.size<=maxLen∧(x.code.length*40<=140737488351232∧∀c∈x.code,c.alts.length*16<=140737488351232)∧RangeC x.code) (λi hi=>by
   obtain⟨b,o,cs,y,rfl,hl,hc,ht,hwt⟩:=hx i hi;obtain⟨x,cv,h0,h1,h2,h3,h4⟩:=glob_of2 hl ht hwt;exact⟨x,b,o,cv,rfl,(hc 0 (by omega)).trans h0,(hc 1 (by omega)).trans h1,(hc 2 (by omega)).trans h2,(hc 3 (by omega)).trans h3,h4⟩)
  have hl:((List.range len).map f).length=len:=by simp
  refine⟨(List.range len).map f,⟨some a,cap,by rw[hl],?_,λi hi=>?_⟩,⟨?_,λc hc=>?_⟩,λc hc=>?_⟩
  ·rw[hl];simp only[short];unfold reachBytes at hs;omega
  ·rw[hl]at hi;obtain⟨b,o,cv,e,h0,h1,h2,h3,h4,h5,-⟩:=hf i hi;exact⟨b,o,cv,by rw[e],by simpa using h0,by simpa using h1,by simpa using h2,h3,by simpa using h4,by simpa using h5⟩
  ·rw[hl];unfold reachBytes at hs;omega
  ·simp only[List.mem_map,List.mem_range]at hc;obtain⟨i,hi,rfl⟩:=hc;obtain⟨-,-,-,-,-,-,-,-,-,-,h,-⟩:=hf i hi;exact h
  ·simp only[List.mem_map,List.mem_range]at hc;obtain⟨i,hi,rfl⟩:=hc;obtain⟨-,-,-,-,-,-,-,-,-,-,-,h⟩:=hf i hi;exact h
theorem obj_of2{H:Type}{enc:TypeId×Value->H}{w:World}{spare:Nat->Bool}{held:Bool}{r:Reach}{b0:Nat}{v:Value}{d:DataW H}{p:List MemPlace}(hv:Value.okWide Tryz.prog w r b0 25 v)(h:DataW.Trod enc Tryz.prog w 0 spare held 25 v d p)(hw:Wt 25 d):∃O:LObj,ObjAt w v O∧RangeO O:=by
 obtain⟨v0,v1,v2,y0,y1,y2,n,rfl,rfl,-,h0,h1,h2⟩:=Go.Joins.open_agg3 Tryz.underlying25 (by kernel_rfl) (by kernel_rfl) hv h;obtain⟨s,e,hs⟩:=one_string Tryz.underlying9 h0;obtain rfl:v0=.string s:=by simpa using e
 obtain⟨li,hI,-⟩:=imps_of h1 (hw.part Tryz.underlying25 (j:=1) rfl rfl);obtain⟨lg,hG,-,hG3⟩:=globs_of2 h2 (hw.part Tryz.underlying25 (j:=2) rfl rfl);exact⟨⟨s,li,lg⟩,⟨_,_,rfl,hs,hI,hG⟩,λg hg x hx=>hG3 g hg x hx⟩
end Go.Proofs.YtcpcplaeaimmpaaGreatDoor
namespace Go.Proofs.YtcpcplaeaimmpaaGreatDoor
open Go.RowKit Go.Sort
theorem Tryz.objI8:(Tryz.prog.info? 25).map (λi=>(i.zero,i.size,i.bytes))=some (some (.agg #[.string ⟨#[]⟩,.slice none 0 0,.slice none 0 0]),3,64):=by kernel_rfl
theorem objs1{w5 w7:World}{ip gp:Option Addr}{ic gc g1 c1:Nat}{o:Obj}(hO:ObjAt w5 (.agg #[.string tM,.slice ip 0 ic,.slice gp 1 gc]) O7)(hg:(w5.alloc o).grownBy w7 none)(hown:w7.ownsRow 0 25 3 (.slice (some ⟨g1,0,none⟩) (0+1) c1) (0+1) ([]++[.string tM,.slice ip 0 ic,.slice gp 1 gc])):Below w5.heap.size w5 w7∧ObjsAt w7 (.slice (some ⟨g1,0,none⟩) 1 c1) [O7]:=by
 have hb:Below w5.heap.size w5 w7:=((Below.refl _ _).alloc (Nat.le_refl _) o).grown hg (by simp) (λb e=>by cases e);refine⟨hb,_,_,rfl,by simp[short],λi hi=>?_⟩;obtain rfl:i=0:=by simpa using hi
 exact⟨g1,0,ip,ic,gp,gc,rfl,by rw[hown.cellAt 0 (by omega)];rfl,by rw[hown.cellAt 1 (by omega)];rfl,by rw[hown.cellAt 2 (by omega)];rfl,hO.keep hb⟩
theorem imagek{w:World}{adr:Nat->Addr}{tb tc:Nat}(hD:Grd w adr)(h0:w.cell? ⟨tb,0,none⟩=some (.string s7)):Calls Tryz.prog 19 #[.slice (some ⟨tb,0,none⟩) 1 tc,.string ⟨#[109,97,105,110]⟩] w λe w'=>∃I:Nat,e=.returned (.tuple #[.pointer (some ⟨I,0,none⟩),.int .i64 0,.bool true])∧Hid (Below w.heap.size w w'∧Pr7 w' I):=by
 have HD:=hid hD;have H0:=hid h0;obtain⟨ii,hii,hij⟩:=Option.map_eq_some_iff.1 Tryz.objI8;simp only[Prod.mk.injEq]at hij;obtain⟨hi0,hi1,hi2⟩:=hij;clear hD h0;go_enter Tryz.func19,Tryz.ntmps19;go_wp2;go_loopw [7,8] (λl i wr=>∃k:Nat,k<=1∧i=.int .i64 (k:Int)∧Hid (Below w.heap.size w wr)∧((k=0∧l=.slice none 0 0)∨(k=1∧∃p c,l=.slice p 1 c∧Hid (ObjsAt wr (.slice p 1 c) [O7])))) (λ_ i _=>1-(intOf i).toNat)
 case atStart=>exact⟨0,Nat.zero_le _,rfl,Below.refl _ _,Or.inl ⟨rfl,rfl⟩⟩
 case round=>
  obtain⟨k,hk,rfl,HB,hl⟩:=hrel;rename World=>wr
  rcases hl with⟨rfl,rfl⟩|⟨rfl,p,c,rfl,HOS⟩
  ·have t0:=cell_keep HB.out H0.out;have HCP:=hid (compile7 (HD.out.keep HB.out).y (HD.out.keep HB.out).t (HD.out.keep HB.out).l);go_wp2_with (first
    |(go_at_call 30;refine HCP.out.mono ?_;rintro e w1 ⟨hb1,gg,gc,rfl,ho1⟩;have HB1:=hid (HB.out.trans (hb1.mono HB.out.size));have HO1:=hid ho1;have HEN:=hid (λW (hb:Below w1.heap.size w1 W)=>enc7 ((HD.out.keep HB1.out).keep hb) (ho1.keep hb));have HC1:=hid (λo=>V3.new3 w1 (.string tM) (.slice none 0 0) (.slice (some ⟨gg,0,none⟩) 1 gc) o);clear hb1 ho1)
    |(go_at_call 6;refine(HEN.out _ ((Below.refl _ _).alloc (Nat.le_refl _) _)).mono ?_;rintro e w2 ⟨rfl,hb2⟩;have hb12:Below w1.heap.size w1 w2:=(((Below.refl _ _).alloc (Nat.le_refl _) _:Below w1.heap.size w1 (w1.alloc _)).trans (hb2.mono (by simp)));have HB2:=hid (HB1.out.trans (hb12.mono HB1.out.size));have HO2:=hid (HO1.out.keep hb12);have HV2:=hid ((HC1.out _).keep hb2);have HDC:=hid (dec7 (HD.out.keep HB2.out));clear hb2 hb12)
    |(go_at_call 8;refine HDC.out.mono ?_;rintro e w3 ⟨ip,ic,gp,gd,rfl,HX⟩;have HB3:=hid (HB2.out.trans (HX.out.1.mono HB2.out.size));have HV3:=hid (HV2.out.keep HX.out.1);have HO3:=hid (HO2.out.keep HX.out.1);obtain⟨a0,a1,a2,-⟩:=id HV3.out;have a0a:=λo=>alloc_old w3 o _ _ _ a0;have a1a:=λo=>alloc_old w3 o _ _ _ a1;have a2a:=λo=>alloc_old w3 o _ _ _ a2;have a0b:=λo o'=>alloc_old _ o' _ _ _ (a0a o);have a1b:=λo o'=>alloc_old _ o' _ _ _ (a1a o);have a2b:=λo o'=>alloc_old _ o' _ _ _ (a2a o);have HSM:=hid (λW (hb:Below w3.heap.size w3 W)=>ks_any O7 _ _ W (HO3.out.keep hb) (HX.out.2.keep hb));have HN3:=hid (λo=>V3.new3 w3 (.string tM) (.slice ip 0 ic) (.slice gp 1 gd) o))
    |(go_at_call 9;have h2:Below w3.heap.size w3 ((w3.alloc (.cells #[.string tM,.slice ip 0 ic,.slice gp 1 gd] 25)).alloc (.cells #[.int .i64 0,.int .i64 0] 31)):=(((Below.refl _ _).alloc (Nat.le_refl _) _).alloc (by simp) _);refine(HSM.out _ h2).mono ?_;rintro e w4 ⟨rfl,hb4⟩;have hb34:Below w3.heap.size w3 w4:=h2.trans (hb4.mono h2.size);have HB4:=hid (HB3.out.trans (hb34.mono HB3.out.size));have HO4:=hid (HX.out.2.keep hb34);obtain⟨q0,q1,q2,-⟩:=((HN3.out 25).keep ((Below.refl _ _).alloc (Nat.le_refl _) _)).keep hb4;clear hb4 hb34 h2 a0a a1a a2a a0b a1b a2b a0 a1 a2)
    |(at_builtin;refine wpList_append_lies _ rfl (.tmp 63) (.tmp 65) 92 rfl 0 25 ii _ 3 64 Tryz.underlying92 hii hi0 hi1 hi2 rfl (by omega) (.slice none 0 0) 0 [] rfl ((RowS.nil (cells:=λ_:Unit=>[]) (sub:=λ_=>[]) (ok:=λ_ _=>True) _ 0).own) ⟨w4.heap.size,0,none⟩ 1 1 [.string tM,.slice ip 0 ic,.slice gp 1 gd] (by simp[Act.eval];done) rfl (by have h:=World.news_of_block (heap_alloc_new w4 (Obj.cells #[.string tM,.slice ip 0 ic,.slice gp 1 gd] 25));simpa using h) (by intro u hu;simp at hu;rcases hu with rfl|rfl|rfl<;>rfl) (by omega) (by unfold maxLen;omega) (by omega) (Nat.zero_le _) _ rfl ?_;intro g1 k1 w7 hown hgrow hat hlt1;obtain⟨hb7,ho7⟩:=objs1 HO4.out hgrow hown;have HB7:=hid (HB4.out.trans (hb7.mono HB4.out.size));have HO7:=hid ho7;clear hown hgrow hat hlt1 hb7 ho7))
   exact⟨⟨1,by omega,by go_num,HB7.out,Or.inr ⟨rfl,_,_,rfl,HO7.out⟩⟩,by simp[intOf]⟩
  ·have HLK:=hid (link7 (HD.out.keep HB.out) HOS.out);go_wp2_with (first
    |(go_at_call 31;refine HLK.out.mono ?_;rintro e w2 ⟨I,rfl,HI⟩))
   refine bodyPost_ret (v:=.tuple #[.pointer (some ⟨I,0,none⟩),.int .i64 0,.bool true]) (by simp[results,Tryz.results19,go_sem]) rfl ?_;exact⟨I,rfl,HB.out.trans (HI.out.1.mono HB.out.size),HI.out.2⟩
theorem rank{w:World}{adr:Nat->Addr}(hD:Grd w adr):Calls Tryz.prog 11 #[.string s7] w λe w'=>e=.returned (.tuple #[.agg #[.int .i64 0,.string ⟨#[55]⟩,.int .i64 7,.int .i64 1],.bool true])∧Hid (Below w.heap.size w w'):=by
 obtain⟨W0,hW0⟩:∃W0,W0=w.alloc (.cells #[.int .i64 0,.string ⟨#[]⟩,.int .i64 0,.int .i64 0] 43):=⟨_,rfl⟩;have hb0:Below w.heap.size w W0:=by rw[hW0];exact(Below.refl _ _).alloc (Nat.le_refl _) _
 have hR:FBL W0 w.heap.size zOut:=by rw[hW0];exact FBL.new4 w _ _ _ _ _
 have hb1:Below W0.heap.size W0 (W0.alloc (.cells #[.string s7] 9)):=(Below.refl _ _).alloc (Nat.le_refl _) _;have HIM:=hid (imagek (tb:=W0.heap.size) (tc:=1) ((hD.keep hb0).keep hb1) (by simp));have HR1:=hid (hR.of_block (hb1.block _ hR.lt) hb1.size);have HB1:=hid (hb0.trans (hb1.mono hb0.size));clear hD hb0 hR hb1;go_enter Tryz.func11,Tryz.ntmps11;go_upto_region 1 with(fail)
 rw[<-hW0];clear hW0;go_wp2_with (first
  |(go_at_call 19;refine HIM.out.mono ?_;rintro e w2 ⟨I,rfl,HX⟩;have HRN:=hid (image7 HX.out.2);have HB2:=hid (HB1.out.trans (HX.out.1.mono HB1.out.size));have HR2:=hid (HR1.out.of_block (HX.out.1.block _ HR1.out.lt) HX.out.1.size))
  |(go_at_call 20;refine HRN.out.mono ?_;rintro e w3 ⟨rfl,hb3⟩;have HB3:=hid (HB2.out.trans (hb3.mono HB2.out.size));have hR:=HR2.out.of_block (hb3.block _ HR2.out.lt) hb3.size;have HRR:=hid hR;have q0:=hR.at 0 rfl;have q1:=hR.at 1 rfl;have q2:=hR.at 2 rfl;have q3:=hR.at 3 rfl;have g0:=hR.fz 0;have g1:=hR.fz 1;have g2:=hR.fz 2;have g3:=hR.fz 3;clear hR hb3))
 have hF:=out_set HRR.out;have d0:=hF.at 0 rfl;have d1:=hF.at 1 rfl;have d2:=hF.at 2 rfl;have d3:=hF.at 3 rfl;refine bodyPost_ret (v:=.tuple #[.agg #[.int .i64 0,.string ⟨#[55]⟩,.int .i64 7,.int .i64 1],.bool true]) (by simp[results,Tryz.results11,go_sem,d0,d1,d2,d3]) rfl ⟨rfl,?_⟩;exact(((HB3.out.setCell (Nat.le_refl _) _).setCell (Nat.le_refl _) _).setCell (Nat.le_refl _) _).setCell (Nat.le_refl _) _
theorem alive_any{w:World}{adr:Nat->Addr}(hD:Grd w adr):Calls Tryz.prog 5 #[] w λe w'=>e=.returned (.bool true)∧Below w.heap.size w w':=by
 have HRK:=hid (rank hD);have HCK:Hid (∀W,Below w.heap.size w W->Calls Tryz.prog 12 #[.string sx] W λe w'=>Below W.heap.size W w'∧e=.returned (.tuple #[.int .i64 4,.int .i64 23])):=λW hb=>by
  have h:=check_any (s:=sx) (flatE flatx) (hD.keep hb).s (hD.keep hb).y;rw[chkx]at h;exact h
 clear hD;go_enter Tryz.func5,Tryz.ntmps5;go_wp2_with (first
  |(go_at_call 11;refine HRK.out.mono ?_;rintro e w1 ⟨rfl,HB1⟩;have hb2:Below w.heap.size w (w1.alloc (.cells #[.int .i64 0,.string ⟨#[55]⟩,.int .i64 7,.int .i64 1] 43)):=HB1.out.alloc HB1.out.size _;have HB2:=hid hb2;have hN:=FBL.new4 w1 (.int .i64 0) (.string ⟨#[55]⟩) (.int .i64 7) (.int .i64 1) 43;have HN:=hid hN;clear hb2 hN)
  |(go_at_call 12;refine(HCK.out _ HB2.out).mono ?_;rintro e w2 ⟨hb2,rfl⟩;have hN:=HN.out.of_block (hb2.block _ HN.out.lt) hb2.size;have q0:=hN.at 0 rfl;have q1:=hN.at 1 rfl;have HB3:=hid (HB2.out.trans (hb2.mono HB2.out.size));clear hb2 hN))
 go_ret;exact⟨rfl,HB3.out⟩
end Go.Proofs.YtcpcplaeaimmpaaGreatDoor
