import Derived.Test.YtcacpmkdfnmhaaaGreatDoorEDJ
import Derived.SizedLaws
import Derived.Stop.LaidErr
import Derived.LaidHandle
import Derived.OpenShut
import Derived.Lib.LaidTab
import Derived.Deep.DeepHandedRow
import Derived.Deep.DeepLaidRun
import Derived.Test.YtcacpmkdfnmhaaaGreatDoorCL0J
set_option linter.unusedSimpArgs false
set_option maxRecDepth 100000
open Go renaming Calls->Av,TypeId->AX,Value->X,World->Q
open Go.IntKind renaming i64->C
open Go.Obj renaming cells->AO
open Go.Proofs.Tryz renaming prog->Aa,underlying9->Bg
open Go.Value renaming agg->T,iface->Z,int->V,pointer->J,slice->W,string->S
open List renaming length->L,range->AU
open Option renaming none->N,some->I
open Or renaming inr->Aq5
namespace Go.Proofs.YtcacpmkdfnmhaaaGreatDoor
open Go.RowKit Go.Sort Go.ChangeShapes Go.WideShapes
variable{wi:List Value}{w s:Nat}{b:Value}{K:List UInt8}{y1:List (String×DataW Unit)}{n:World}{f:Nat->Addr}{yl:Nat->Bool}{w3:Bool}{wj:TypeId}{su:Array Field}{wf:List Int}{yc:List MemPlace}
theorem Ach(d:s=1)(a:(wi.drop w).take s=[b]):wi[w]?=I b:=by
 subst d;have c:=congrArg (·[0]?) a;simpa[List.getElem?_take,List.getElem?_drop]using c
theorem ZH:Aa.cellsOf 9=1:=O3
theorem P1{c:Program}{d:Q}{x:String×DataW Unit}:∀{e:List (String×DataW Unit)},laidMet c e d->x∈e->∃b,laidMet c (x::b) d
 |y::b,h,a=>by
  rcases AW.1 a with rfl|a
  ·exact⟨b,h⟩
  ·exact P1 h.tail a
theorem star: "*"++ "errors.errorString"= "*errors.errorString":=O4
theorem Tryz.eT(a:AX)(b:Aa.typeName? 3 a=I "*errors.errorString"):a=444:=
 typeName_ptr_named (nm:= "errors.errorString") (by rw[star];kernel_rfl) O3 O4 a (by rw[star];exact b)
theorem Abn:Aa.cellsOf 446=1:=O3
theorem Ey{a:Q}{n:String}{g:Nat}(f:laidMet Aa y1 a)(t:(n,DataW.iface "*errors.errorString" (.ptr (.agg [.lit (.string K)])))∈y1)(s:Aa.globalNamed n=I g)(v:(Aa.globals[g]?).map (·.type)=I 63):
 ∃(d:Addr) (k:ByteArray),a.cell? ⟨g,0,N⟩=I (CX d)/\a.cell? d=I (.string k)/\k.data.toList=K/\∃l B,a.heap[d.block]?=I (.cells l B (0,0)):=by
 obtain⟨U,f⟩:=P1 f t;obtain⟨M,⟨E,Y,m,D,H,O,h,w,j,r,_,p⟩,_,i⟩:=f;obtain rfl:=Ar0 (s.symm.trans h);obtain rfl:=Ar0 (v.symm.trans w);subst p;obtain⟨x⟩:=m;have y:∀b c,x=[.iface b c]->Value.okWide Aa a .any 0 b c:=λb c o=>by
  subst o;exact(i g 0 (by simp[MemPlace.row])).2 b c (by simpa using World.var?_cell h j 0)
 obtain⟨e,z,rfl,q,u,G,rfl⟩:=errorString_of_trod Tryz.underlying63 Tryz.eT Tryz.underlying444 Tryz.underlying446 rfl rfl Bg Abn ZH r y;refine⟨e,z,by simpa[CX]using World.var?_cell h j 0,q,u,(i e.block e.off ?_).1⟩;simp[MemPlace.row]
def Oo:List (String×DataW Unit):=[("math/bits.deBruijn32tab",Rows.laid_math_bits_deBruijn32tab),("math/bits.deBruijn64tab",Rows.laid_math_bits_deBruijn64tab),("internal/strconv.uint64pow10",Rows.laid_internal_strconv_uint64pow10),("strconv.ErrRange",Rows.laid_strconv_ErrRange),("strconv.ErrSyntax",Rows.laid_strconv_ErrSyntax),("tarn/fault.Long",Rows.laid_tarn_fault_Long),("tarn/fault.Syntax",Rows.laid_tarn_fault_Syntax),("tarn/fault.Deep",Rows.laid_tarn_fault_Deep),("tarn/fault.Twice",Rows.laid_tarn_fault_Twice),("tarn/fault.Name",Rows.laid_tarn_fault_Name),("tarn/fault.Short",Rows.laid_tarn_fault_Short),("tarn/fault.Sum",Rows.laid_tarn_fault_Sum),("tarn/fault.Form",Rows.laid_tarn_fault_Form),("tarn/fault.Varint",Rows.laid_tarn_fault_Varint),("tarn/fault.Order",Rows.laid_tarn_fault_Order),("tarn/fault.More",Rows.laid_tarn_fault_More),("tarn/fault.Index",Rows.laid_tarn_fault_Index),("tarn/fault.Jump",Rows.laid_tarn_fault_Jump),("tarn/fault.Depth",Rows.laid_tarn_fault_Depth),("tarn/fault.Value",Rows.laid_tarn_fault_Value),("tarn/fault.Missing",Rows.laid_tarn_fault_Missing),("tarn/fault.Arity",Rows.laid_tarn_fault_Arity),("tarn/fault.Entry",Rows.laid_tarn_fault_Entry),("tarn/fault.Big",Rows.laid_tarn_fault_Big),("tarn/object.rows",Rows.laid_tarn_object_rows)]
theorem NP(a:laidMetH Aa Rows.lessUptoRow.laid n):laidMet Aa Oo n/\handlesMet Aa [("errors.errorType",Rows.laid_errors_errorType)] n:=a
def To:DataW Unit->List UInt8
 |.iface _ (.ptr (.agg [.lit (.string b)]))=>b
 |_=>[]
def P6(a:Nat):List UInt8:=([Rows.laid_tarn_fault_Value,Rows.laid_tarn_fault_Index,Rows.laid_tarn_fault_Jump,Rows.laid_tarn_fault_Depth,Rows.laid_tarn_fault_Long,Rows.laid_tarn_fault_Name,Rows.laid_tarn_fault_Short,Rows.laid_tarn_fault_Sum,Rows.laid_tarn_fault_Form,Rows.laid_tarn_fault_Varint,Rows.laid_tarn_fault_Order,Rows.laid_tarn_fault_More,Rows.laid_tarn_fault_Syntax,Rows.laid_tarn_fault_Deep,Rows.laid_tarn_fault_Twice,Rows.laid_tarn_fault_Missing,Rows.laid_tarn_fault_Arity,Rows.laid_tarn_fault_Entry,Rows.laid_tarn_fault_Big].map To).getD a []
theorem Aiq:∀a,a<19->∀b,b<19->a≠b->P6 a≠P6 b:=O4
theorem Aeg{b:Q}(a:laidMet Aa Oo b):∀i,i<19->∃(c:Addr) (d:ByteArray),b.cell? ⟨Hi i,0,N⟩=I (CX c)/\b.cell? c=I (S d)/\d.data.toList=P6 i/\∃e f,b.heap[c.block]?=I (.cells e f (0,0))
 |0,_=>Ey (n:= "tarn/fault.Value") a (A0 (i:=19) rfl) O3 O3
 |1,_=>Ey (n:= "tarn/fault.Index") a (A0 (i:=16) rfl) O3 O3
 |2,_=>Ey (n:= "tarn/fault.Jump") a (A0 (i:=17) rfl) O3 O3
 |3,_=>Ey (n:= "tarn/fault.Depth") a (A0 (i:=18) rfl) O3 O3
 |4,_=>Ey (n:= "tarn/fault.Long") a (A0 (i:=5) rfl) O3 O3
 |5,_=>Ey (n:= "tarn/fault.Name") a (A0 (i:=9) rfl) O3 O3
 |6,_=>Ey (n:= "tarn/fault.Short") a (A0 (i:=10) rfl) O3 O3
 |7,_=>Ey (n:= "tarn/fault.Sum") a (A0 (i:=11) rfl) O3 O3
 |8,_=>Ey (n:= "tarn/fault.Form") a (A0 (i:=12) rfl) O3 O3
 |9,_=>Ey (n:= "tarn/fault.Varint") a (A0 (i:=13) rfl) O3 O3
 |10,_=>Ey (n:= "tarn/fault.Order") a (A0 (i:=14) rfl) O3 O3
 |11,_=>Ey (n:= "tarn/fault.More") a (A0 (i:=15) rfl) O3 O3
 |12,_=>Ey (n:= "tarn/fault.Syntax") a (A0 (i:=6) rfl) O3 O3
 |13,_=>Ey (n:= "tarn/fault.Deep") a (A0 (i:=7) rfl) O3 O3
 |14,_=>Ey (n:= "tarn/fault.Twice") a (A0 (i:=8) rfl) O3 O3
 |15,_=>Ey (n:= "tarn/fault.Missing") a (A0 (i:=20) rfl) O3 O3
 |16,_=>Ey (n:= "tarn/fault.Arity") a (A0 (i:=21) rfl) O3 O3
 |17,_=>Ey (n:= "tarn/fault.Entry") a (A0 (i:=22) rfl) O3 O3
 |18,_=>Ey (n:= "tarn/fault.Big") a (A0 (i:=23) rfl) O3 O3
 |i+19,a=>absurd a O1
theorem Tryz.et:Aa.globalNamed "errors.errorType"=I 18:=O3
theorem Tryz.rt:(Aa.cutTypes.find? (·.1== "internal/reflectlite.rtype")).map (·.2)=I 241:=O3
theorem Tryz.ft:Aa.types.size=474:=O3
theorem Tryz.eN:((AU 474).filter λa=>Aa.rowNamed a [101,114,114,111,114])=[63]:=O3
theorem Tryz.fF:typeHandle Aa 63=J (I ⟨27,63,N⟩):=O3
theorem Ao9(h:handlesMet Aa [("errors.errorType",Rows.laid_errors_errorType)] n):n.cell? ⟨18,0,N⟩=I (Z 241 (T #[J (I ⟨27,63,N⟩)])):=by
 obtain⟨i,l,k,c,d,e,f,a⟩:=h _ (Aq.2 rfl);have g:i=[101,114,114,111,114]:=(Ar0 c).symm;subst g;obtain rfl:=Ar0 (Tryz.rt.symm.trans d);have b:k∈(AU 474).filter λj=>Aa.rowNamed j [101,114,114,111,114]:=List.mem_filter.2 ⟨As3.2 (by rw[<-Tryz.ft];exact e),f⟩;rw[Tryz.eN]at b;obtain rfl:=Aq.1 b;rw[Tryz.fF]at a;simpa using World.var?_cell Tryz.et a 0
theorem Ai6(c:laidMetH Aa Rows.lessUptoRow.laid n):∃e,DP n e:=by
 obtain⟨l,m⟩:=NP c;obtain⟨e,d⟩:=Go.Deep.choose_lt (Aeg l);refine⟨e,λb ⟨_,a⟩=>?_,λb ⟨_,a⟩=>?_,λb i ⟨_,a⟩ ⟨_,h⟩ q k=>?_,Ao9 m⟩
 ·obtain⟨j,c,-⟩:=d b a;exact c
 ·obtain⟨j,-,-,-,c⟩:=d b a;exact c
 ·obtain⟨j,-,g,o,-⟩:=d b a;obtain⟨r,-,f,p,-⟩:=d i h;rw[k]at g;rw[g]at f;simp only[Option.some.injEq,Value.string.injEq]at f;subst f;exact Aiq b a i h q (o.symm.trans p)
theorem Agv{b:Q}(j:laidMetH Aa Rows.lessUptoRow.laid b)(a:DP b f):SY b f:=by
 obtain⟨d,-⟩:=NP j;obtain⟨k,m,e,-⟩:=Ey (n:= "strconv.ErrSyntax") (g:=25) d (A0 (i:=4) rfl) O3 O3;obtain⟨l,o,h,-⟩:=Ey (n:= "strconv.ErrRange") (g:=26) d (A0 (i:=3) rfl) O3 O3;exact⟨a.c 12 O1,a.c 13 O1,a.c 14 O1,a.c 5 O1,a.c 4 O1,⟨_,e,Aq5 ⟨_,_,rfl⟩⟩,⟨_,h,Aq5 ⟨_,_,rfl⟩⟩⟩
theorem Ajp(t:Aa.underlying wj=I (.struct su))(s:∀(a:Nat) (c:Field),su[a]?=I c->c.offset=a/\Aa.cellsOf c.type=1)(q:∀(a:Nat) (c:Field),su[a]?=I c->Aa.underlying c.type=I (.int C))(k:DataW.trod (λ_=>()) Aa n 0 yl w3 w wj wi=I (.agg (wf.map λb=>.lit (.int C b)),yc)):∀a,a<su.size->wi[a]?=I (.int C (wf.getD a 0)):=by
 intro a p;obtain⟨v,y,-,u,-,x,o⟩:=DataW.trod_struct t k;have d:su[a]?=I su[a]:=Asv p;obtain⟨r,m⟩:=s a _ d;have f:=o a _ d;rw[r,m,AA O1]at f;obtain⟨b,h,i,-⟩:=DataW.trod_int (q a _ d) f;have j:wf.map (λb=>(DataW.lit (.int C b):DataW Unit))=v.map (·.1):=by
  have:=congrArg Prod.fst u;simpa using this
 have e:(wf.map (λb=>(DataW.lit (.int C b):DataW Unit)))[a]?=I (.lit (.int C b)):=by
  rw[j,Arc,AA O1,i];rfl
 rw[Arc]at e;obtain⟨z,l,g⟩:=AB.1 e;simp only[DataW.lit.injEq,Lit.int.injEq,true_and]at g;subst g;rw[Ach rfl h,List.getD,l];rfl
def VL(b:Nat):DataW Unit:=.agg (((AU 7).map λa=>BC b a).map λc=>.lit (.int C c))
theorem Aco:(Rows.laid_tarn_object_rows:DataW Unit)=.agg ((AU 21).map VL):=by rfl
theorem Aby:Aa.cellsOf 355=7:=O3
theorem Aqp:Aa.cellsOf 356=147:=O3
theorem Akh:(match Aa.underlying 355 with|some (.struct fs)=>(AU fs.size).all (λa=>match fs[a]? with|some f=>f.offset==a && Aa.cellsOf f.type==1 && (match Aa.underlying f.type with|some (.int C)=>true|_=>false)|none=>false) && fs.size==7|_=>false)=true:=O3
theorem Ub(s:laidMet Aa Oo n):Cu n:=by
 obtain⟨ah,t⟩:=P1 (x:=("tarn/object.rows",Rows.laid_tarn_object_rows)) s (A0 (i:=24) rfl);obtain⟨af,⟨Y,ai,r,U,ae,ag,l,E,G,k,_,O⟩,_,ad⟩:=t;have z:Aa.globalNamed "tarn/object.rows"=I 21:=O3;have D:(Aa.globals[21]?).map (·.type)=I 356:=O3;obtain rfl:=Ar0 (z.symm.trans l);obtain rfl:=Ar0 (D.symm.trans E);rw[Aco]at k;obtain⟨q,K,-,H,ab,ac,y⟩:=DataW.trod_array Tryz.underlying356 k;obtain⟨e,p⟩:∃e,Aa.underlying 355=I (.struct e):=⟨_,Tryz.underlying355⟩;have d:=Akh;rw[p]at d;simp only[Aqx,Ark,As3,beq_iff_eq]at d;obtain⟨d,aa⟩:=d;have o:∀(i:Nat) (a:Field),e[i]?=I a->(a.offset=i/\Aa.cellsOf a.type=1)/\Aa.underlying a.type=I (.int C):=by
  intro i a h;have B:i<e.size:=(A5.1 h).1;have:=d i B;rw[h]at this;simp only[Aqx,beq_iff_eq]at this;refine⟨this.1,?_⟩;have b:=this.2;split at b
  ·rename_i c
   exact c
  ·cases b
 intro i h;have m:i / 7<21:=O1;have b:=y (i / 7) m;rw[Aby,AA O1]at b;have c:(q.map (·.1))[i / 7]?=I (VL (i / 7)):=by
  have:=congrArg Prod.fst H;simp only[DataW.agg.injEq]at this;rw[<-this,Arc,List.getElem?_range m];rfl
 rw[Arc,AA O1]at c;simp only[Ati,Option.some.injEq]at c;have u:DataW.trod (λ_=>()) Aa n 0 (λ_=>true) false K 355 ((r.toList.drop (i / 7*7)).take 7)=I (.agg (((AU 7).map λj=>BC (i / 7) j).map λM=>.lit (.int C M)),(q[i / 7]'(by omega)).2):=by
  rw[b];exact congrArg I (Prod.ext c rfl)
 have g:=Ajp p (λi a f=>(o i a f).1) (λi a f=>(o i a f).2) u (i % 7) O1;have v:=World.var?_cell l G i;rw[v];rw[List.getElem?_take,if_pos O1,List.getElem?_drop,show i / 7*7+i % 7=i by omega]at g;have w:((AU 7).map λj=>BC (i / 7) j).getD (i % 7) 0=F5.getD i 0:=by
  rw[List.getD,Arc,List.getElem?_range O1];simp only[Ati,Arn,BC];rw[show i / 7*7+i % 7=i by omega]
 rw[w]at g;simpa using g
theorem Aj5(b:laidMet Aa Oo n):Lib.TabIs Aa n "internal/strconv.uint64pow10" .u64 Lib.pow10Tab:=by
 obtain⟨c,a⟩:=P1 (x:=("internal/strconv.uint64pow10",Rows.laid_internal_strconv_uint64pow10)) b (A0 (i:=2) rfl);rw[show(Rows.laid_internal_strconv_uint64pow10:DataW Unit)=Lib.tabData .u64 Lib.pow10Tab from rfl]at a;exact Lib.tabIs_of_head (g:=22) (t:=390) O3 O3 Tryz.underlying390 Tryz.underlying277 O3 O3 a
theorem Af9(a:laidMetH Aa Rows.lessUptoRow.laid n):LB n n.heap.size:=⟨Ub (NP a).1,AG (Ub (NP a).1 0 O1),Lib.tabBelow_of_tabIs (Aj5 (NP a).1)⟩
end Go.Proofs.YtcacpmkdfnmhaaaGreatDoor
namespace Go.Proofs.YtcacpmkdfnmhaaaGreatDoor
open Go.ChangeShapes Go.WideShapes Go.ChangeAt Go.RowKit
variable{wl:Type}{yl:Nat->Bool}{w3:Bool}{w:Nat}
noncomputable def low:Nat:=(World.holding Aa default ⟨#[],#[],[]⟩).heap.size
def TB:DataW Unit->List Lit
 |.agg l=>l.filterMap fun|.lit x=>I x|_=>N
 |_=>[]
def cellOf:Lit->X
 |.int k n=>.int k n
 |.bool b=>.bool b
 |_=>.nilIface
def Alg(a:Nat):List UInt8:=if a<19 then P6 a else if a=19 then To Rows.laid_strconv_ErrSyntax else To Rows.laid_strconv_ErrRange
def Apv(a:Nat):Nat:=if a<19 then Hi a else if a=19 then 25 else 26
noncomputable def Q0(d:Os):Q:=
 let b:=World.holding Aa d ⟨((AU 21).map λa=>AO #[S ⟨(Alg a).toArray⟩] 446).toArray,#[],[]⟩
 {b with heap:=((((((AU 21).foldl (λ(c:Array Obj) a=>c.modify (Apv a) fun
  |.cells _ t frozen=>.cells #[Z 444 (J (I ⟨low+a,0,N⟩))] t frozen
  |o=>o) b.heap).modify 18 fun
  |.cells _ t frozen=>.cells #[Z 241 (T #[J (I ⟨27,63,N⟩)])] t frozen
  |o=>o).modify 21 fun
  |.cells _ t frozen=>.cells (F5.map λe=>Value.int C e).toArray t frozen
  |o=>o).modify 22 fun
  |.cells _ t frozen=>.cells ((TB Rows.laid_internal_strconv_uint64pow10).map cellOf).toArray t frozen
  |o=>o).modify 23 fun
  |.cells _ t frozen=>.cells ((TB Rows.laid_math_bits_deBruijn32tab).map cellOf).toArray t frozen
  |o=>o).modify 24 fun
  |.cells _ t frozen=>.cells ((TB Rows.laid_math_bits_deBruijn64tab).map cellOf).toArray t frozen
  |o=>o}
theorem Aan(a:Os):laidMetH Aa Rows.lessUptoRow.laid ((Q0 a).forCall (λ_ _=>0) ⟨#[],#[W N 0 0,S ⟨#[]⟩,V C 0,V C 0],[]⟩).memory:=
 laidMetH_of_parts (laidMet_of_run3 8 O3 O3 O3) O3
theorem reads(c:Os){a:Type}(b:AX×X->a):∃d,DataW.whole b Aa ((Q0 c).forCall (λ_ _=>0) ⟨#[],#[.slice N 0 0,.string ⟨#[]⟩,.int C 0,.int C 0],[]⟩).memory Tryz.f3.params.toList Rows.lessSpec.vars false #[.slice N 0 0,.string ⟨#[]⟩,.int C 0,.int C 0].toList 8=I ([.nil,.lit (.string []),.lit (.int C 0),.lit (.int C 0)],[],d):=
 ⟨[],O3⟩
theorem Tryz.own:ownKnob Aa.godebug=none:=O3
theorem Tryz.laidOut:laidOutB Aa=true:=O3
theorem Tryz.ez:Aa.readableRec 22=true:=O3
theorem Afi(a:DataW wl):1<=Rows.uptoBulk a:=by
 cases a with
 |lit l=>cases l<;>simp[Rows.uptoBulk]
 |_=>simp[Rows.uptoBulk]
theorem Wb{c:Type}:∀b:List (DataW c),L b<=Rows.uptoBulkAll b
 |[]=>by simp[Rows.uptoBulkAll]
 |a::r=>by
  have d:=Wb r;have e:=Afi a;simp only[Rows.uptoBulkAll,AM];omega
theorem Ajy{z:AX×X->wl}{l:Q}{v:X}{t:DataW wl×List MemPlace}(h:DataW.trod z Aa l 0 yl w3 w 22 [v]=I t):∃p k f,v=.slice p (List.length k) f/\Mg l p k/\L k<=Rows.uptoBulk t.1:=by
 rcases Go.Deep.open_slice1 Tryz.underlying22 ZH h with⟨i,-⟩|⟨e,c,f,O,n,x,u,M,i,-,q,-,r,rfl,s⟩
 ·exact⟨N,[],0,by simpa using i,λa j=>absurd j O2,O2⟩
 ·obtain rfl:v=.slice (I e) c f:=by simpa using i
  obtain⟨m,D⟩:=Go.Deep.choose_lt (α:=ByteArray) (n:=c) (p:=λa g=>∃b d,e=⟨b,d,N⟩/\l.cell? ⟨b,d+a,N⟩=I (.string g)) (λa j=>by
   obtain⟨o,H⟩:=s a (by rw[r];split<;>omega);obtain⟨g,E,-⟩:=DataW.trod_string Bg H;obtain⟨b,d,K⟩:=e;have G:K=none:=by simpa[Addr.add]using World.cell?_spot (s 0 (by rw[r];split<;>omega)).1
   subst G;rw[Pk,show x a=.string g by simpa using E]at o;exact⟨g,b,d,rfl,o⟩)
  have q:((AU c).map m).length=c:=O2;refine⟨I e,(AU c).map m,f,by rw[q],λa j=>?_,?_⟩
  ·obtain⟨b,d,y,h⟩:=D a O1;exact⟨b,d,by rw[y],by simpa using h⟩
  ·have B:=Wb ((AU c).map u);simp only[Ax,List.length_range,Rows.uptoBulk]at B ⊢;omega
theorem Am9(e:Type)(h:AX×X->e)(b:Q)(ae:Nat)(c:Array X)(g r:List (DataW e))(af:List MemPlace)(d:∀(D:Nat) t v,Tryz.f3.params[D]?=I t->c[D]?=I v->Value.okWide Aa b .any ae t v)(x:DataW.Whole h Aa Tryz.f3.params.toList Rows.lessSpec.vars false b c.toList g r af)(a2:Rows.uptoSmall e (g++r)=true)(j:laidMetH Aa Rows.lessUptoRow.laid b):
 Av Aa 3 c b λp o=>∃v,p=.returned v/\Rows.lessSpec.post h Aa Tryz.f3 false true false false b c v o:=by
 have k:=x;obtain⟨aF,bc,ax,a1,rfl,ba,bb⟩:=x;have u:DataW.TrodAll h Aa b 0 (λ_=>true) true Tryz.f3.params.toList c.toList g aF:=ax;rw[Tryz.params3]at u d;obtain⟨K,bl,ah,aN,l,be,aW,rfl,rfl,s,aJ⟩:=trodAll_cons u;obtain⟨M,bm,ai,aO,aG,bf,aX,rfl,rfl,ap,aK⟩:=trodAll_cons aJ;obtain⟨O,bn,aj,aP,aH,bg,aY,rfl,rfl,ar,aL⟩:=trodAll_cons aK;obtain⟨U,bo,ak,aQ,aI,bh,aZ,rfl,rfl,av,aM⟩:=trodAll_cons aL;obtain⟨rfl,rfl,rfl⟩:=trodAll_nil aM;obtain rfl:c=#[K,M,O,U]:=by cases c;simp_all
 obtain⟨rfl,rfl⟩:=trodVars_none a1;simp only[A2]at k;obtain⟨ac,aE,ag,rfl⟩:=okWide_slice Tryz.underlying22 (d 0 22 K rfl rfl);obtain⟨m,rfl⟩:=okWide_string Bg (d 1 9 M rfl rfl);obtain⟨i,rfl⟩:=okWide_int Tryz.underlying3 (d 2 3 O rfl rfl);obtain⟨f,rfl⟩:=okWide_int Tryz.underlying3 (d 3 3 U rfl rfl);obtain⟨aR,ao⟩:=id s;obtain⟨bj,bk,bi,q,a0,ay⟩:=Ajy (v:=.slice ac aE ag) ao;simp only[Value.slice.injEq]at q;obtain⟨rfl,rfl,rfl⟩:=q;obtain⟨aS,aq⟩:=id ap;obtain⟨H,al,Y,B⟩:=DataW.trod_string Bg aq;obtain rfl:m=H:=by have a:[Value.string m]=[Value.string H]:=al;simpa using a
 obtain⟨aT,au⟩:=id ar;obtain⟨E,am,aa,z⟩:=DataW.trod_int Tryz.underlying3 au;obtain rfl:i=E:=by have a:[Value.int C i]=[Value.int C E]:=am;simpa using a
 obtain⟨aV,aw⟩:=id av;obtain⟨G,an,ab,y⟩:=DataW.trod_int Tryz.underlying3 aw;obtain rfl:f=G:=by have a:[Value.int C f]=[Value.int C G]:=an;simpa using a
 have a3:Rows.uptoBulk ah<=1048576:=by
  have a:=of_decide_eq_true a2;simp only[A2,Rows.uptoBulkAll]at a;omega
 obtain⟨ad,w⟩:=Ai6 j;have az:Hf b ad:=⟨w,Agv j w,Af9 j⟩;refine(Aau az a0 (Aw ay a3) B (bounds_i64 z) (bounds_i64 y)).mono λp o ⟨a7,hb⟩=>?_;subst a7;have a9:aG=[]:=(Prod.mk.inj Y).2;have a4:ai=.lit (.string m.data.toList):=(Prod.mk.inj Y).1;have aB:aH=[]:=(Prod.mk.inj aa).2;have a5:aj=.lit (.int C i):=(Prod.mk.inj aa).1;have aC:aI=[]:=(Prod.mk.inj ab).2;have a6:ak=.lit (.int C f):=(Prod.mk.inj ab).1;subst a9 a4 aB a5 aC a6;have a8:∀n∈l,n.block<b.heap.size:=λn aD=>by simpa using k.lt n (by simp[aD])
 refine⟨_,rfl,_,_,_,[],l++([]++([]++[])),[],by simpa using k,?_,?_,?_,?_,λa=>by cases a⟩
 ·exact trodAll_mk1 (shut_bool Tryz.underlying4 true)
 ·rw[Tryz.params3];exact⟨l,_,Below.trod Tryz.laidOut Tryz.ez (of_decide_eq_true O3) s hb a8,trodAll_mk3 (Go.Deep.shut_string_cell Bg B) (shut_int Tryz.underlying3 z) (shut_int Tryz.underlying3 y),rfl⟩
 ·rfl
 ·exact hb.frame _
theorem Amq(a:Os)(p:a.Started)(b:Type)(enc:AX×X->b)(c:Stop.Interp):
 ReturnsInHanded {} Tryz.checked a 3 .any ((Rows.OpenSpec.upto Rows.lessSpec).preRow enc Aa Tryz.f3 Rows.lessUptoRow.domain false Rows.lessUptoRow.laid) (((Rows.OpenSpec.upto Rows.lessSpec).at c).post enc Aa Tryz.f3 false true false false):=by
 obtain⟨r,o⟩:=reads a enc;refine returnsInHanded_of_row (C:=Tryz.checked) (s:=Rows.OpenSpec.upto Rows.lessSpec) Tryz.own p O3 Tryz.func3
  (witness_row_at (enc:=enc) (C:=Tryz.checked) false (Q0 a) #[W N 0 0,S ⟨#[]⟩,V .i64 0,V .i64 0] rfl O3 O3 O3
   (OpenSpec.preRow_of_cond 8 o O3 (λq m=>by cases m;kernel_rfl) O3 (Aan a))) ?_
 intro d f e h i g n k _ l _ j _ _;exact Am9 b enc d f e h i g n k (l _ rfl) j
theorem Abe:Rows.LessUptoSaid:=
 OpenClaim.holds_of_cond 3 Tryz.f3 rfl rfl rfl rfl rfl rfl rfl ⟨rfl,rfl,rfl,rfl,rfl⟩ rfl rfl rfl rfl rfl O3 Tryz.func3 Aa4
  (of_decide_eq_true O3) (by unfold Func.isWrapper;first|(rw[if_pos (by decide+kernel)];kernel_rfl)|(rw[if_neg (by decide+kernel)];exact⟨rfl,rfl⟩))
  (λd e b c _ a=>by rw[OpenClaim.pre_eq_preRow];exact Amq d e b c a)
end Go.Proofs.YtcacpmkdfnmhaaaGreatDoor
