import Derived.Test.YtlccndplhfcknaaGreatDoorRefSoundJ
import Derived.Test.YtlccndplhfcknaaGreatDoorCards
import Derived.Test.YtlccndplhfcknaaGreatDoorKindKJ
import Derived.Stop.LaidErr
import Derived.LaidHandle
import Derived.OpenShut
set_option maxRecDepth 100000
set_option maxHeartbeats 4000000
namespace Go.Proofs.YtlccndplhfcknaaGreatDoor
open Go.RowKit Go.Sort
def ObjsIn(w:World)(p:Option Addr)(l:List LObj):Prop:=
 ∀i (h:i<l.length),∃b o ip ic gp gc,p=some ⟨b,o,none⟩∧w.cell? ⟨b,o+i*3,none⟩=some (.string l[i].name)∧w.cell? ⟨b,o+i*3+1,none⟩=some (.slice ip l[i].imps.length ic)∧w.cell? ⟨b,o+i*3+2,none⟩=some (.slice gp l[i].globs.length gc)∧ObjAt w (.agg #[.string l[i].name,.slice ip l[i].imps.length ic,.slice gp l[i].globs.length gc]) l[i]
def ObjsAt(w:World)(v:Value)(l:List LObj):Prop:=∃p cap,v=.slice p l.length cap∧short l.length∧ObjsIn w p l
theorem ObjsIn.keep{w w':World}{p:Option Addr}{l:List LObj}(h:ObjsIn w p l)(hb:Below w.heap.size w w'):ObjsIn w' p l:=λi hi=>by
 obtain⟨b,o,ip,ic,gp,gc,e,h0,h1,h2,h3⟩:=h i hi;exact⟨b,o,ip,ic,gp,gc,e,cell_keep hb h0,cell_keep hb h1,cell_keep hb h2,h3.keep hb⟩
theorem ObjsAt.keep{w w':World}{v:Value}{l:List LObj}(h:ObjsAt w v l)(hb:Below w.heap.size w w'):ObjsAt w' v l:=by
 obtain⟨p,c,e,hs,h⟩:=h;exact⟨p,c,e,hs,h.keep hb⟩
theorem ObjAt.globs{w:World}{O:LObj}{s:ByteArray}{iv gv:Value}(h:ObjAt w (.agg #[.string s,iv,gv]) O):ImpsAt w iv O.imps∧GlobsAt w gv O.globs:=by
 obtain⟨ia,ga,e,-,h1,h2⟩:=h;obtain⟨-,rfl,rfl⟩:s=O.name∧iv=ia∧gv=ga:=by simpa using e
 exact⟨h1,h2⟩
theorem bqB(s t:ByteArray):(s.toList==t.toList)=decide (s=t):=by
 by_cases h:s=t
 ·subst h;simp
 ·rw[decide_eq_false h,beq_eq_false_iff_ne];exact λe=>h (Go.WideShapes.bytes_inj (by rwa[ByteArray.toList_eq,ByteArray.toList_eq]at e))
def fstF{α:Type}(p:Nat->α->Bool):List α->Nat->Option Nat
 |[],_=>none
 |x::r,k=>if p k x then some k else fstF p r (k+1)
theorem fstF_at{α:Type}(p:Nat->α->Bool)(l:List α){k:Nat}(hk:k<l.length):fstF p (l.drop k) k=if p k l[k] then some k else fstF p (l.drop (k+1)) (k+1):=by
 rw[List.drop_eq_getElem_cons hk,fstF]
theorem fstF_end{α:Type}(p:Nat->α->Bool)(l:List α){k:Nat}(hk:l.length<=k):fstF p (l.drop k) k=none:=by
 rw[List.drop_of_length_le hk,fstF]
theorem fstF_ge{α:Type}{p:Nat->α->Bool}:∀{l:List α} {k n:Nat},fstF p l k=some n->k<=n∧n<k+l.length
 |x::r,k,n,h=>by
  rw[fstF]at h;split at h
  ·cases h;simp
  ·have:=fstF_ge h;simp only[List.length_cons];omega
theorem fstF_none{α:Type}{p:Nat->α->Bool}:∀{l:List α} {k:Nat},fstF p l k=none->∀i (hi:i<l.length),p (k+i) l[i]=false
 |x::r,k,h,i,hi=>by
  rw[fstF]at h;split at h
  ·cases h
  ·rename_i hx
   cases i with
   |zero=>simpa using hx
   |succ j=>
    have:=fstF_none h j (by simpa using hi);rw[show k+(j+1)=k+1+j by omega];exact this
theorem fstF_congr{α:Type}{p q:Nat->α->Bool}:∀{l:List α} {k:Nat},(∀i (hi:i<l.length),p (k+i) l[i]=q (k+i) l[i])->fstF p l k=fstF q l k
 |[],_,_=>rfl
 |x::r,k,h=>by
  have e:fstF p r (k+1)=fstF q r (k+1):=fstF_congr λi hi=>by
   have:=h (i+1) (by simpa using hi);rw[show k+1+i=k+(i+1) by omega];exact this
  have e0:p k x=q k x:=h 0 (by simp);rw[fstF,fstF,e,e0]
def exG(t:ByteArray):List LGlob->Nat->Option (Nat×Int)
 |[],_=>none
 |g::r,n=>if g.exp && decide (g.name=t) then some (n,g.arity) else exG t r (n+1)
def exO(t:ByteArray):List LObj->Nat->Nat->Option (Nat×Nat×Int)
 |[],_,_=>none
 |O::r,k,n=>match exG t O.globs n with
  |some (m,a)=>some (m,k,a)
  |none=>exO t r (k+1) (n+O.globs.length)
def expo(Os:List LObj)(t:ByteArray):Option (Nat×Nat×Int):=exO t Os 0 0
def gBase(Os:List LObj)(k:Nat):Nat:=((Os.take k).map λO=>O.globs.length).sum
theorem gBase_succ{Os:List LObj}{k:Nat}(hk:k<Os.length):gBase Os (k+1)=gBase Os k+Os[k].globs.length:=by
 unfold gBase;rw[List.take_succ_eq_append_getElem hk,List.map_append,List.sum_append];simp
theorem exG_at(t:ByteArray)(l:List LGlob){j:Nat}(n:Nat)(hj:j<l.length):exG t (l.drop j) n=if l[j].exp && decide (l[j].name=t) then some (n,l[j].arity) else exG t (l.drop (j+1)) (n+1):=by
 rw[List.drop_eq_getElem_cons hj,exG]
theorem exO_at(t:ByteArray)(l:List LObj){k:Nat}(n:Nat)(hk:k<l.length):exO t (l.drop k) k n=match exG t l[k].globs n with
 |some (m,a)=>some (m,k,a)
 |none=>exO t (l.drop (k+1)) (k+1) (n+l[k].globs.length):=by
 rw[List.drop_eq_getElem_cons hk,exO]
noncomputable def okO(O:LObj):Bool:=valsG O && (sBad (O.imps.length+O.globs.length) O.globs 0).isNone
def twB(Os:List LObj)(k:Nat)(O:LObj):Bool:=O.globs.any λg=>g.exp && (match expo Os g.name with|some (_,who,_)=>decide (who<k)|none=>decide (0<k))
def miB(Os:List LObj)(O:LObj):Bool:=O.imps.any λi=>(expo Os i.name).isNone
def arB2(Os:List LObj)(O:LObj):Bool:=O.imps.any λi=>decide ((match expo Os i.name with|some (_,_,a)=>a|none=>0)≠i.arity)
def sz1(O:LObj):Nat:=(O.globs.map λg=>g.code.length).sum
def sz(Os:List LObj):Nat:=(Os.map sz1).sum
def orE(i:Nat)(a:Option Nat)(r:Option (Nat×Nat)):Option (Nat×Nat):=match a with
 |some k=>some (i,k)
 |none=>r
def lnkX(Os:List LObj)(entry:ByteArray):Option (Nat×Nat):=match expo Os entry with
 |none=>some (17,0)
 |some (_,_,a)=>if a≠0 then some (17,0) else if 200000<sz Os then some (18,0) else none
noncomputable def lnkE(Os:List LObj)(entry:ByteArray):Option (Nat×Nat):=
 if 8<Os.length then some (18,0) else orE 0 (fstF (λ_ O=>!okO O) Os 0) (orE 14 (fstF (twB Os) Os 0) (orE 15 (fstF (λ_=>miB Os) Os 0) (orE 16 (fstF (λ_=>arB2 Os) Os 0) (lnkX Os entry))))
def numb(Os:List LObj)(O:LObj)(first:Nat)(a:Int):Int:=
 if a<(O.imps.length:Int) then (match (O.imps[a.toNat]?).bind λi=>expo Os i.name with|some (n,_,_)=>(n:Int)|none=>-1) else (first:Int)+a-(O.imps.length:Int)
def mvI(Os:List LObj)(O:LObj)(first:Nat)(i:LIns):LIns:=if i.op=1 then {i with a:=numb Os O first i.a} else i
def mvG(Os:List LObj)(O:LObj)(first:Nat)(g:LGlob):LGlob:={g with code:=g.code.map (mvI Os O first)}
def imgF(Os:List LObj):List LObj->Nat->List LGlob
 |[],_=>[]
 |O::r,n=>O.globs.map (mvG Os O n)++imgF Os r (n+O.globs.length)
def img(Os:List LObj):List LGlob:=imgF Os Os 0
def imgE(Os:List LObj)(entry:ByteArray):Int:=match expo Os entry with|some (n,_,_)=>(n:Int)|none=>-1
end Go.Proofs.YtlccndplhfcknaaGreatDoor
namespace Go.Proofs.YtlccndplhfcknaaGreatDoor
open Go.RowKit Go.Sort Go.ChangeShapes Go.WideShapes
theorem cells_obj:Tryz.prog.cellsOf 44=3:=by kernel_rfl
theorem bytes_obj:Tryz.prog.bytesOf 44=64:=by kernel_rfl
theorem cells_imps:Tryz.prog.cellsOf 42=1:=by kernel_rfl
theorem cells_globs:Tryz.prog.cellsOf 41=1:=by kernel_rfl
theorem objc_of{H:Type}{enc:TypeId×Value->H}{w:World}{spare:Nat->Bool}{held:Bool}{fuel:Nat}{cs:List Value}{y:DataW H×List MemPlace}(hl:cs.length=3)(h:DataW.trod enc Tryz.prog w 0 spare held fuel 44 cs=some y)(hw:Wt 44 y.1):
 ∃(O:LObj) (ip:Option Addr) (ic:Nat) (gp:Option Addr) (gc:Nat),cs[0]?=some (.string O.name)∧cs[1]?=some (.slice ip O.imps.length ic)∧cs[2]?=some (.slice gp O.globs.length gc)∧ObjAt w (.agg #[.string O.name,.slice ip O.imps.length ic,.slice gp O.globs.length gc]) O∧SizedO O.imps O.globs:=by
 obtain⟨y0,y1,y2,n,rfl,-,h0,h1,h2⟩:=Go.Deep.trod_struct3 Tryz.underlying44 h;obtain⟨s,e0,hs⟩:=one_string Tryz.underlying9 h0;obtain⟨v1,e1,f1⟩:=one_cell (cs:=cs) (i:=1) cells_imps (by omega);obtain⟨v2,e2,f2⟩:=one_cell (cs:=cs) (i:=2) cells_globs (by omega);have h1':DataW.trod enc Tryz.prog w 0 spare held n 42 ((cs.drop 1).take (Tryz.prog.cellsOf 42))=some y1:=h1;have h2':DataW.trod enc Tryz.prog w 0 spare held n 41 ((cs.drop 2).take (Tryz.prog.cellsOf 41))=some y2:=h2;rw[e1]at h1';rw[e2]at h2';obtain⟨li,hI,hI2⟩:=imps_of h1' (hw.part Tryz.underlying44 (j:=1) rfl rfl);obtain⟨lg,hG,hG2⟩:=globs_of h2' (hw.part Tryz.underlying44 (j:=2) rfl rfl);obtain⟨ip,ic,rfl,-⟩:=id hI;obtain⟨gp,gc,rfl,-⟩:=id hG;exact⟨⟨s,li,lg⟩,ip,ic,gp,gc,one_at cells_string e0,f1,f2,⟨_,_,rfl,hs,hI,hG⟩,hI2,hG2⟩
theorem objs_of{H:Type}{enc:TypeId×Value->H}{w:World}{spare:Nat->Bool}{held:Bool}{fuel:Nat}{v:Value}{x:DataW H×List MemPlace}(h:DataW.trod enc Tryz.prog w 0 spare held fuel 22 [v]=some x)(hw:Wt 22 x.1):∃l:List LObj,ObjsAt w v l∧l.length*64<=140737488351232∧∀O∈l,SizedO O.imps O.globs:=by
 rcases slice_get Tryz.underlying22 cells_obj (by omega) h hw with rfl|⟨a,len,cap,n,rfl,hs,hx⟩
 ·exact⟨[],⟨none,0,rfl,by simp[short],λi hi=>absurd hi (by simp)⟩,by simp,λc hc=>by cases hc⟩
 ·rw[bytes_obj]at hs;have:Inhabited LObj:=⟨⟨⟨#[]⟩,[],[]⟩⟩;obtain⟨f,hf⟩:=Go.Deep.choose_lt (α:=LObj) (n:=len) (p:=λi O=>∃(b o:Nat) (ip:Option Addr) (ic:Nat) (gp:Option Addr) (gc:Nat),a=⟨b,o,none⟩∧w.cell? ⟨b,o+i*3,none⟩=some (.string O.name)∧w.cell? ⟨b,o+i*3+1,none⟩=some (.slice ip O.imps.length ic)∧w.cell? ⟨b,o+i*3+2,none⟩=some (.slice gp O.globs.length gc)∧ObjAt w (.agg #[.string O.name,.slice ip O.imps.length ic,.slice gp O.globs.length gc]) O∧SizedO O.imps O.globs) (λi hi=>by
   obtain⟨b,o,cs,y,rfl,hl,hc,ht,hwt⟩:=hx i hi;obtain⟨O,ip,ic,gp,gc,h0,h1,h2,h3⟩:=objc_of hl ht hwt;exact⟨O,b,o,ip,ic,gp,gc,rfl,(hc 0 (by omega)).trans h0,(hc 1 (by omega)).trans h1,(hc 2 (by omega)).trans h2,h3⟩)
  have hl:((List.range len).map f).length=len:=by simp
  refine⟨(List.range len).map f,⟨some a,cap,by rw[hl],?_,λi hi=>?_⟩,?_,λc hc=>?_⟩
  ·rw[hl];simp only[short];unfold reachBytes at hs;omega
  ·rw[hl]at hi;obtain⟨b,o,ip,ic,gp,gc,e,h0,h1,h2,h3,-⟩:=hf i hi;have e2:((List.range len).map f)[i]'(by rw[hl];exact hi)=f i:=by simp
   rw[e2];exact⟨b,o,ip,ic,gp,gc,by rw[e],h0,h1,h2,h3⟩
  ·rw[hl];unfold reachBytes at hs;omega
  ·simp only[List.mem_map,List.mem_range]at hc;obtain⟨i,hi,rfl⟩:=hc;obtain⟨-,-,-,-,-,-,-,-,-,-,-,h⟩:=hf i hi;exact h
theorem laid_mem{P:Program}{W:World}{x:String×DataW Unit}:∀{l:List (String×DataW Unit)},laidMet P l W->x∈l->∃r,laidMet P (x::r) W
 |y::r,h,hx=>by
  rcases List.mem_cons.1 hx with rfl|hx
  ·exact⟨r,h⟩
  ·exact laid_mem h.tail hx
theorem star: "*"++ "errors.errorString"= "*errors.errorString":=by decide
theorem Tryz.errRow(u:TypeId)(h:Tryz.prog.typeName? 3 u=some "*errors.errorString"):u=234:=
 typeName_ptr_named (nm:= "errors.errorString") (by rw[star];kernel_rfl) (by kernel_rfl) (by decide) u (by rw[star];exact h)
theorem cells_errS:Tryz.prog.cellsOf 254=1:=by kernel_rfl
theorem sent_get{W:World}{n:String}{g:Nat}{text:List UInt8}{l:List (String×DataW Unit)}(h:laidMet Tryz.prog l W)(hm:(n,DataW.iface "*errors.errorString" (.ptr (.agg [.lit (.string text)])))∈l)(hg:Tryz.prog.globalNamed n=some g)(ht:(Tryz.prog.globals[g]?).map (·.type)=some 57):
 ∃(a:Addr) (s:ByteArray),W.cell? ⟨g,0,none⟩=some (errE a)∧W.cell? a=some (.string s)∧s.data.toList=text∧∃c t,W.heap[a.block]?=some (.cells c t (0,0)):=by
 obtain⟨r,h⟩:=laid_mem h hm;obtain⟨ps,⟨g0,t0,cs0,f0,p0,q0,hg0,ht0,hv0,hd0,_,e0⟩,_,hrows⟩:=h;obtain rfl:=Option.some.inj (hg.symm.trans hg0);obtain rfl:=Option.some.inj (ht.symm.trans ht0);subst e0;obtain⟨l0⟩:=cs0;have ok0:∀u v,l0=[.iface u v]->Value.okWide Tryz.prog W .any 0 u v:=λu v e=>by
  subst e;exact(hrows g 0 (by simp[MemPlace.row])).2 u v (by simpa using World.var?_cell hg0 hv0 0)
 obtain⟨a0,s0,rfl,hc0,hs0,hz0,rfl⟩:=errorString_of_trod Tryz.underlying57 Tryz.errRow Tryz.underlying234 Tryz.underlying254 rfl rfl Tryz.underlying9 cells_errS cells_string hd0 ok0;refine⟨a0,s0,by simpa[errE]using World.var?_cell hg0 hv0 0,hc0,hs0,(hrows a0.block a0.off ?_).1⟩;simp[MemPlace.row]
def L13:List (String×DataW Unit):=[("math/bits.deBruijn32tab",Rows.laid_math_bits_deBruijn32tab),("math/bits.deBruijn64tab",Rows.laid_math_bits_deBruijn64tab),("internal/strconv.uint64pow10",Rows.laid_internal_strconv_uint64pow10),("tarn/fault.Long",Rows.laid_tarn_fault_Long),("tarn/fault.Syntax",Rows.laid_tarn_fault_Syntax),("tarn/fault.Deep",Rows.laid_tarn_fault_Deep),("tarn/fault.Twice",Rows.laid_tarn_fault_Twice),("tarn/fault.Name",Rows.laid_tarn_fault_Name),("tarn/fault.Short",Rows.laid_tarn_fault_Short),("tarn/fault.Sum",Rows.laid_tarn_fault_Sum),("tarn/fault.Form",Rows.laid_tarn_fault_Form),("tarn/fault.Varint",Rows.laid_tarn_fault_Varint),("tarn/fault.Order",Rows.laid_tarn_fault_Order),("tarn/fault.More",Rows.laid_tarn_fault_More),("tarn/fault.Index",Rows.laid_tarn_fault_Index),("tarn/fault.Jump",Rows.laid_tarn_fault_Jump),("tarn/fault.Depth",Rows.laid_tarn_fault_Depth),("tarn/fault.Value",Rows.laid_tarn_fault_Value),("tarn/fault.Missing",Rows.laid_tarn_fault_Missing),("tarn/fault.Arity",Rows.laid_tarn_fault_Arity),("tarn/fault.Entry",Rows.laid_tarn_fault_Entry),("tarn/fault.Big",Rows.laid_tarn_fault_Big),("tarn/object.rows",Rows.laid_tarn_object_rows)]
theorem laid_split{W:World}(h:laidMetH Tryz.prog Rows.linksRow.laid W):laidMet Tryz.prog L13 W∧handlesMet Tryz.prog [("errors.errorType",Rows.laid_errors_errorType)] W:=h
def txt:DataW Unit->List UInt8
 |.iface _ (.ptr (.agg [.lit (.string b)]))=>b
 |_=>[]
def kTxt(i:Nat):List UInt8:=([Rows.laid_tarn_fault_Value,Rows.laid_tarn_fault_Index,Rows.laid_tarn_fault_Jump,Rows.laid_tarn_fault_Depth,Rows.laid_tarn_fault_Long,Rows.laid_tarn_fault_Name,Rows.laid_tarn_fault_Short,Rows.laid_tarn_fault_Sum,Rows.laid_tarn_fault_Form,Rows.laid_tarn_fault_Varint,Rows.laid_tarn_fault_Order,Rows.laid_tarn_fault_More,Rows.laid_tarn_fault_Syntax,Rows.laid_tarn_fault_Deep,Rows.laid_tarn_fault_Twice,Rows.laid_tarn_fault_Missing,Rows.laid_tarn_fault_Arity,Rows.laid_tarn_fault_Entry,Rows.laid_tarn_fault_Big].map txt).getD i []
theorem kTxt_ne:∀i,i<19->∀j,j<19->i≠j->kTxt i≠kTxt j:=by decide
theorem sents{W:World}(h:laidMet Tryz.prog L13 W):∀i,i<19->∃(a:Addr) (s:ByteArray),W.cell? ⟨kNum i,0,none⟩=some (errE a)∧W.cell? a=some (.string s)∧s.data.toList=kTxt i∧∃c t,W.heap[a.block]?=some (.cells c t (0,0))
 |0,_=>sent_get (n:= "tarn/fault.Value") h (List.mem_of_getElem? (i:=17) rfl) (by kernel_rfl) (by kernel_rfl)
 |1,_=>sent_get (n:= "tarn/fault.Index") h (List.mem_of_getElem? (i:=14) rfl) (by kernel_rfl) (by kernel_rfl)
 |2,_=>sent_get (n:= "tarn/fault.Jump") h (List.mem_of_getElem? (i:=15) rfl) (by kernel_rfl) (by kernel_rfl)
 |3,_=>sent_get (n:= "tarn/fault.Depth") h (List.mem_of_getElem? (i:=16) rfl) (by kernel_rfl) (by kernel_rfl)
 |4,_=>sent_get (n:= "tarn/fault.Long") h (List.mem_of_getElem? (i:=3) rfl) (by kernel_rfl) (by kernel_rfl)
 |5,_=>sent_get (n:= "tarn/fault.Name") h (List.mem_of_getElem? (i:=7) rfl) (by kernel_rfl) (by kernel_rfl)
 |6,_=>sent_get (n:= "tarn/fault.Short") h (List.mem_of_getElem? (i:=8) rfl) (by kernel_rfl) (by kernel_rfl)
 |7,_=>sent_get (n:= "tarn/fault.Sum") h (List.mem_of_getElem? (i:=9) rfl) (by kernel_rfl) (by kernel_rfl)
 |8,_=>sent_get (n:= "tarn/fault.Form") h (List.mem_of_getElem? (i:=10) rfl) (by kernel_rfl) (by kernel_rfl)
 |9,_=>sent_get (n:= "tarn/fault.Varint") h (List.mem_of_getElem? (i:=11) rfl) (by kernel_rfl) (by kernel_rfl)
 |10,_=>sent_get (n:= "tarn/fault.Order") h (List.mem_of_getElem? (i:=12) rfl) (by kernel_rfl) (by kernel_rfl)
 |11,_=>sent_get (n:= "tarn/fault.More") h (List.mem_of_getElem? (i:=13) rfl) (by kernel_rfl) (by kernel_rfl)
 |12,_=>sent_get (n:= "tarn/fault.Syntax") h (List.mem_of_getElem? (i:=4) rfl) (by kernel_rfl) (by kernel_rfl)
 |13,_=>sent_get (n:= "tarn/fault.Deep") h (List.mem_of_getElem? (i:=5) rfl) (by kernel_rfl) (by kernel_rfl)
 |14,_=>sent_get (n:= "tarn/fault.Twice") h (List.mem_of_getElem? (i:=6) rfl) (by kernel_rfl) (by kernel_rfl)
 |15,_=>sent_get (n:= "tarn/fault.Missing") h (List.mem_of_getElem? (i:=18) rfl) (by kernel_rfl) (by kernel_rfl)
 |16,_=>sent_get (n:= "tarn/fault.Arity") h (List.mem_of_getElem? (i:=19) rfl) (by kernel_rfl) (by kernel_rfl)
 |17,_=>sent_get (n:= "tarn/fault.Entry") h (List.mem_of_getElem? (i:=20) rfl) (by kernel_rfl) (by kernel_rfl)
 |18,_=>sent_get (n:= "tarn/fault.Big") h (List.mem_of_getElem? (i:=21) rfl) (by kernel_rfl) (by kernel_rfl)
 |i+19,h=>absurd h (by omega)
theorem Tryz.et:Tryz.prog.globalNamed "errors.errorType"=some 19:=by kernel_rfl
theorem Tryz.rt:(Tryz.prog.cutTypes.find? (·.1== "internal/reflectlite.rtype")).map (·.2)=some 154:=by kernel_rfl
theorem Tryz.tsize:Tryz.prog.types.size=265:=by kernel_rfl
theorem Tryz.oneRow:((List.range 265).filter λt=>Tryz.prog.rowNamed t [101,114,114,111,114])=[57]:=by kernel_rfl
theorem Tryz.hErr:typeHandle Tryz.prog 57=.pointer (some ⟨25,57,none⟩):=by kernel_rfl
theorem handle_of_laid{W:World}(h:handlesMet Tryz.prog [("errors.errorType",Rows.laid_errors_errorType)] W):W.cell? ⟨19,0,none⟩=some (.iface 154 (.agg #[.pointer (some ⟨25,57,none⟩)])):=by
 obtain⟨name,u,ty,e1,e2,e3,e4,e5⟩:=h _ (List.mem_singleton.2 rfl);have en:name=[101,114,114,111,114]:=(Option.some.inj e1).symm;subst en;obtain rfl:=Option.some.inj (Tryz.rt.symm.trans e2);have hm:ty∈(List.range 265).filter λt=>Tryz.prog.rowNamed t [101,114,114,111,114]:=List.mem_filter.2 ⟨List.mem_range.2 (by rw[<-Tryz.tsize];exact e3),e4⟩;rw[Tryz.oneRow]at hm;obtain rfl:=List.mem_singleton.1 hm;rw[Tryz.hErr]at e5;simpa using World.var?_cell Tryz.et e5 0
theorem sentAt{W:World}(h:laidMetH Tryz.prog Rows.linksRow.laid W):∃adr,SentAt W adr:=by
 obtain⟨h1,h2⟩:=laid_split h;obtain⟨adr,hA⟩:=Go.Deep.choose_lt (sents h1);refine⟨adr,λi ⟨_,hi⟩=>?_,λi ⟨_,hi⟩=>?_,λi j ⟨_,hi⟩ ⟨_,hj⟩ hne e=>?_,handle_of_laid h2⟩
 ·obtain⟨s,h,-⟩:=hA i hi;exact h
 ·obtain⟨s,-,-,-,h⟩:=hA i hi;exact h
 ·obtain⟨s,-,h3,h4,-⟩:=hA i hi;obtain⟨s',-,h5,h6,-⟩:=hA j hj;rw[e]at h3;rw[h3]at h5;simp only[Option.some.injEq,Value.string.injEq]at h5;subst h5;exact kTxt_ne i hi j hj hne (h4.symm.trans h6)
theorem ints_of_struct{W:World}{sp:Nat->Bool}{held:Bool}{e:TypeId}{fs:Array Field}{fuel:Nat}{cs:List Value}{zs:List Int}{p:List MemPlace}(hs:Tryz.prog.underlying e=some (.struct fs))
 (hone:∀(i:Nat) (f:Field),fs[i]?=some f->f.offset=i∧Tryz.prog.cellsOf f.type=1) (hint:∀(i:Nat) (f:Field),fs[i]?=some f->Tryz.prog.underlying f.type=some (.int .i64))
 (h:DataW.trod (λ_=>()) Tryz.prog W 0 sp held fuel e cs=some (.agg (zs.map λz=>.lit (.int .i64 z)),p)):∀i,i<fs.size->cs[i]?=some (.int .i64 (zs.getD i 0)):=by
 intro i hi;obtain⟨xs,n,-,hx,-,hlen,hf⟩:=DataW.trod_struct hs h;have hfi:fs[i]?=some fs[i]:=Array.getElem?_eq_getElem hi;obtain⟨ho,hc⟩:=hone i _ hfi;have h1:=hf i _ hfi;rw[ho,hc,List.getElem?_eq_getElem (by omega)]at h1;obtain⟨z,e1,e2,-⟩:=DataW.trod_int (hint i _ hfi) h1;have e3:zs.map (λz=>(DataW.lit (.int .i64 z):DataW Unit))=xs.map (·.1):=by
  have:=congrArg Prod.fst hx;simpa using this
 have e4:(zs.map (λz=>(DataW.lit (.int .i64 z):DataW Unit)))[i]?=some (.lit (.int .i64 z)):=by
  rw[e3,List.getElem?_map,List.getElem?_eq_getElem (by omega),e2];rfl
 rw[List.getElem?_map]at e4;obtain⟨z',h5,h6⟩:=Option.map_eq_some_iff.1 e4;simp only[DataW.lit.injEq,Lit.int.injEq,true_and]at h6;subst h6;rw[one_at rfl e1,List.getD,h5];rfl
def rowData(k:Nat):DataW Unit:=.agg (((List.range 7).map λj=>rowN k j).map λz=>.lit (.int .i64 z))
theorem rows_data:(Rows.laid_tarn_object_rows:DataW Unit)=.agg ((List.range 21).map rowData):=by rfl
theorem cells_row:Tryz.prog.cellsOf 198=7:=by kernel_rfl
theorem fields_ok:(match Tryz.prog.underlying 198 with|some (.struct fs)=>(List.range fs.size).all (λi=>match fs[i]? with|some f=>f.offset==i && Tryz.prog.cellsOf f.type==1 && (match Tryz.prog.underlying f.type with|some (.int .i64)=>true|_=>false)|none=>false) && fs.size==7|_=>false)=true:=by kernel_rfl
theorem tabAt13{W:World}(h1:laidMet Tryz.prog L13 W):TabAt W:=by
 obtain⟨r,h2⟩:=laid_mem (x:=("tarn/object.rows",Rows.laid_tarn_object_rows)) h1 (List.mem_of_getElem? (i:=22) rfl);obtain⟨ps,⟨g0,t0,cs0,f0,p0,q0,hg0,ht0,hv0,hd0,_,e0⟩,_,hrows⟩:=h2;have hg:Tryz.prog.globalNamed "tarn/object.rows"=some 20:=by kernel_rfl
 have ht:(Tryz.prog.globals[20]?).map (·.type)=some 199:=by kernel_rfl
 obtain rfl:=Option.some.inj (hg.symm.trans hg0);obtain rfl:=Option.some.inj (ht.symm.trans ht0);rw[rows_data]at hd0;obtain⟨xs,m,-,hx,hl,hlen,hf⟩:=DataW.trod_array Tryz.underlying199 hd0;obtain⟨fs,hs⟩:∃fs,Tryz.prog.underlying 198=some (.struct fs):=⟨_,Tryz.underlying198⟩;have hok:=fields_ok;rw[hs]at hok;simp only[Bool.and_eq_true,List.all_eq_true,List.mem_range,beq_iff_eq]at hok;obtain⟨hok,h7⟩:=hok;have hone:∀(i:Nat) (f:Field),fs[i]?=some f->(f.offset=i∧Tryz.prog.cellsOf f.type=1)∧Tryz.prog.underlying f.type=some (.int .i64):=by
  intro i f hi;have hlt:i<fs.size:=(Array.getElem?_eq_some_iff.1 hi).1;have:=hok i hlt;rw[hi]at this;simp only[Bool.and_eq_true,beq_iff_eq]at this;refine⟨this.1,?_⟩;have h3:=this.2;split at h3
  ·rename_i h4
   exact h4
  ·cases h3
 intro i hi;have hk:i / 7<21:=by omega
 have h3:=hf (i / 7) hk;rw[cells_row,List.getElem?_eq_getElem (by omega)]at h3;have h4:(xs.map (·.1))[i / 7]?=some (rowData (i / 7)):=by
  have:=congrArg Prod.fst hx;simp only[DataW.agg.injEq]at this;rw[<-this,List.getElem?_map,List.getElem?_range hk];rfl
 rw[List.getElem?_map,List.getElem?_eq_getElem (by omega)]at h4;simp only[Option.map_some,Option.some.injEq]at h4;have h5:DataW.trod (λ_=>()) Tryz.prog W 0 (λ_=>true) false m 198 ((cs0.toList.drop (i / 7*7)).take 7)=some (.agg (((List.range 7).map λj=>rowN (i / 7) j).map λz=>.lit (.int .i64 z)),(xs[i / 7]'(by omega)).2):=by
  rw[h3];exact congrArg some (Prod.ext h4 rfl)
 have h6:=ints_of_struct hs (λi f h=>(hone i f h).1) (λi f h=>(hone i f h).2) h5 (i % 7) (by omega);have h8:=World.var?_cell hg0 hv0 i;rw[h8];rw[List.getElem?_take,if_pos (by omega),List.getElem?_drop,show i / 7*7+i % 7=i by omega]at h6;have h9:((List.range 7).map λj=>rowN (i / 7) j).getD (i % 7) 0=rowsTab.getD i 0:=by
  rw[List.getD,List.getElem?_map,List.getElem?_range (by omega)];simp only[Option.map_some,Option.getD_some,rowN];rw[show i / 7*7+i % 7=i by omega]
 rw[h9]at h6;simpa using h6
theorem tabAt{W:World}(h:laidMetH Tryz.prog Rows.linksRow.laid W):TabAt W:=tabAt13 (laid_split h).1
end Go.Proofs.YtlccndplhfcknaaGreatDoor
namespace Go.Proofs.YtlccndplhfcknaaGreatDoor
open Go.RowKit Go.Sort
structure Few (Os:List LObj):Prop where
 n:Os.length<=8
 g:∀O∈Os,O.globs.length*56<=140737488351232∧O.imps.length*24<=140737488351232
theorem Few.base{Os:List LObj}(h:Few Os):∀k,k<=Os.length->gBase Os k<=k*140737488355328
 |0,_=>by simp[gBase]
 |k+1,hk=>by
  have:=h.base k (by omega);have:=(h.g Os[k] (List.getElem_mem _)).1;rw[gBase_succ (by omega)];omega
def exVal:Option (Nat×Nat×Int)->Value
 |some (n,k,a)=>.tuple #[.int .i64 (n:Int),.int .i64 (k:Int),.int .i64 a]
 |none=>.tuple #[.int .i64 (-1),.int .i64 0,.int .i64 0]
theorem export_any(Os:List LObj)(v:Value)(t:ByteArray)(w:World)(h:ObjsAt w v Os)(hF:Few Os):
 Calls Tryz.prog 17 #[v,.string t] w λe w'=>e=.returned (exVal (expo Os t))∧Below w.heap.size w w':=by
 obtain⟨p,cap,rfl,hs,hI⟩:=h;have HI:Hid (∀w',Below w.heap.size w w'->ObjsIn w' p Os):=λw' hb=>hI.keep hb;have HF:=hid hF;have hn8:=hF.n;have HL:=hid (λx:ByteArray=>bqB x t);clear hI hF hs;go_enter Tryz.func17,Tryz.ntmps17;go_wp2;go_loopw [7,8] (λnv kv wr=>∃k:Nat,k<=Os.length∧nv=.int .i64 (gBase Os k:Int)∧kv=.int .i64 (k:Int)∧Hid (expo Os t=exO t (Os.drop k) k (gBase Os k)∧Below w.heap.size w wr)) (λ_ kv _=>Os.length-(intOf kv).toNat)
 case atStart=>exact⟨0,Nat.zero_le _,rfl,rfl,rfl,Below.refl _ _⟩
 case round=>
  obtain⟨k,hk,rfl,rfl,HS⟩:=hrel;rename World=>wr
  by_cases hlt:k<Os.length
  ·have h0:(0:Int)<=(k:Int):=by omega
   have h1:(k:Int)<(Os.length:Int):=by omega
   obtain⟨b,o,ip,ic,gp,gc,rfl,-,-,c2,hO⟩:=HI.out _ HS.out.2 k hlt;obtain⟨gp',gc',e,hgl,hgi⟩:=hO.globs.2.open;cases e;have HGI:=hid hgi;have HB:=hid (HF.out.base k (by omega));obtain⟨m,hm⟩:∃m,gBase Os k=m:=⟨_,rfl⟩;have HM:=hid hm;have hbm:=HB.out;have HC2:=hid c2;rw[hm]at hbm ⊢;clear hgi hO hm c2;go_wp2;go_loopw [7,9] (λnv jv wx=>∃j:Nat,j<=Os[k].globs.length∧nv=.int .i64 ((m+j:Nat):Int)∧jv=.int .i64 (j:Int)∧Hid (exG t Os[k].globs m=exG t (Os[k].globs.drop j) (m+j)∧Below wr.heap.size wr wx)) (λ_ jv _=>Os[k].globs.length-(intOf jv).toNat)
   case atStart=>exact⟨0,Nat.zero_le _,rfl,rfl,rfl,Below.refl _ _⟩
   case round=>
    obtain⟨j,hj,rfl,rfl,HX⟩:=hrel;rename World=>wx
    have d2:=cell_keep HX.out.2 HC2.out;by_cases hjt:j<Os[k].globs.length
    ·have j0:(0:Int)<=(j:Int):=by omega
     have j1:(j:Int)<(Os[k].globs.length:Int):=by omega
     obtain⟨gb,go,cp,cn,cc,rfl,g0,g1,g2,g3,-,-⟩:=HGI.out _ HX.out.2 j hjt;have HE:=hid (HX.out.1.trans (exG_at t Os[k].globs (m+j) hjt));have HKO:=hid (HS.out.1.trans (exO_at t Os (gBase Os k) hlt));rw[HM.out]at HKO;have HBX:=hid (HS.out.2.trans (HX.out.2.mono HS.out.2.size));have HLX:=hid (HL.out Os[k].globs[j].name);generalize Os[k].globs[j].name=nm at*;generalize Os[k].globs[j].arity=ar at*;generalize Os[k].globs[j].exp=ex at*;cases ex with
     |false=>
      go_wp2;go_roundw
      case rel=>exact⟨j+1,by omega,by go_num,by go_num,HE.out,HX.out.2.alloc HX.out.2.size _⟩
      case measure=>simp[intOf];omega
     |true=>
      by_cases e:nm=t
      ·have b1:(nm.toList==t.toList)=true:=by rw[HLX.out];simpa using e
       have HR:Hid (expo Os t=some (m+j,k,ar)):=by
        show _=_;rw[HKO.out,HE.out];simp[e]
       go_wp2;go_region
       go_wp2;go_ret3
       exact⟨ret_val (by rw[HR.out];rfl),(HBX.out.alloc HBX.out.size _).drew⟩
      ·have b1:(nm.toList==t.toList)=false:=by rw[HLX.out];simpa using e
       have HE2:Hid (exG t Os[k].globs m=exG t (Os[k].globs.drop (j+1)) (m+j+1)):=by
        show _=_;rw[HE.out];simp[e]
       go_wp2;go_roundw
       case rel=>exact⟨j+1,by omega,by go_num,by go_num,HE2.out,HX.out.2.alloc HX.out.2.size _⟩
       case measure=>simp[intOf];omega
    ·obtain rfl:j=Os[k].globs.length:=by omega
     have hge:¬(Os[k].globs.length:Int)<(Os[k].globs.length:Int):=by omega
     go_wp2;go_roundw
     case rel=>
      refine⟨k+1,by omega,?_,by go_num,?_,HS.out.2.trans (HX.out.2.mono HS.out.2.size)⟩
      ·rw[gBase_succ hlt,HM.out]
      ·rw[HS.out.1,exO_at t Os _ hlt,HM.out,HX.out.1,List.drop_length,gBase_succ hlt,HM.out];rfl
     case measure=>simp[intOf];omega
  ·obtain rfl:k=Os.length:=by omega
   have hge:¬(Os.length:Int)<(Os.length:Int):=by omega
   go_wp2;go_ret3
   exact⟨ret_val (by rw[HS.out.1,List.drop_length];rfl),HS.out.2⟩
theorem row_kp{w w':World}{B:Nat}{e:TypeId}{size n:Nat}{v:Value}{xs:List Value}(h:w.ownsRow B e size v n xs)(hb:Below w.heap.size w w'):w'.ownsRow B e size v n xs:=row_fr h λb hm=>hb.block b (by
 rcases h.2 with⟨h1,-⟩|⟨g,cap,cur,rfl,-,hg,-⟩
 ·subst h1;simp[vB,Value.ownBlock]at hm
 ·obtain rfl:b=g:=by simpa[vB,Value.ownBlock]using hm
  exact(Array.getElem?_eq_some_iff.1 hg).1)
theorem row_low{w:World}{B:Nat}{e:TypeId}{size n b:Nat}{v:Value}{xs:List Value}(h:w.ownsRow B e size v n xs)(hv:v.ownBlock=some b):B<=b:=by
 rcases h.2 with⟨h1,-⟩|⟨g,cap,cur,rfl,hB,-⟩
 ·subst h1;cases hv
 ·obtain rfl:g=b:=by simpa[Value.ownBlock]using hv
  exact hB
theorem row_zero{w:World}{B:Nat}{e:TypeId}{size n:Nat}{v:Value}{xs:List Value}(h:w.ownsRow B e size v n xs):w.ownsRow 0 e size v n xs:=⟨h.1,by
 rcases h.2 with hn|⟨g,cap,cur,e1,-,h3⟩
 ·exact .inl hn
 ·exact .inr ⟨g,cap,cur,e1,Nat.zero_le _,h3⟩⟩
def AltsX(X:Nat->Prop)(w:World)(v:Value)(l:List LAlt):Prop:=∃p cap,v=.slice p l.length cap∧short l.length∧∀i (h:i<l.length),∃b o,X b∧p=some ⟨b,o,none⟩∧w.cell? ⟨b,o+i*2,none⟩=some (.int .i64 l[i].tag)∧w.cell? ⟨b,o+i*2+1,none⟩=some (.int .i64 l[i].to)
def CodeX(X:Nat->Prop)(w:World)(v:Value)(l:List LIns):Prop:=∃p cap,v=.slice p l.length cap∧short l.length∧∀i (h:i<l.length),∃b o av,X b∧p=some ⟨b,o,none⟩∧w.cell? ⟨b,o+i*3,none⟩=some (.int .i64 l[i].op)∧w.cell? ⟨b,o+i*3+1,none⟩=some (.int .i64 l[i].a)∧w.cell? ⟨b,o+i*3+2,none⟩=some av∧AltsX X w av l[i].alts
theorem AltsAt.x{w w':World}{v:Value}{l:List LAlt}(h:AltsAt w v l)(hb:Below w.heap.size w w'):AltsX (λb=>b<w.heap.size) w' v l:=by
 obtain⟨p,cap,e,hs,hc⟩:=h;refine⟨p,cap,e,hs,λi hi=>?_⟩;obtain⟨b,o,e2,h0,h1⟩:=hc i hi;exact⟨b,o,block_lt_of_cell h0,e2,cell_keep hb h0,cell_keep hb h1⟩
theorem cell_same{w w':World}{b j:Nat}{v:Value}(e:w'.heap[b]?=w.heap[b]?)(h:w.cell? ⟨b,j,none⟩=some v):w'.cell? ⟨b,j,none⟩=some v:=by rw[World.cell?_of_block (a:=⟨b,j,none⟩) e];exact h
theorem AltsX.fr{X Y:Nat->Prop}{w w':World}{v:Value}{l:List LAlt}(h:AltsX X w v l)(hX:∀b,X b->b<w.heap.size->Y b∧w'.heap[b]?=w.heap[b]?):AltsX Y w' v l:=by
 obtain⟨p,cap,e,hs,hc⟩:=h;refine⟨p,cap,e,hs,λi hi=>?_⟩;obtain⟨b,o,hx,e2,h0,h1⟩:=hc i hi;obtain⟨k1,k2⟩:=hX b hx (block_lt_of_cell h0);exact⟨b,o,k1,e2,cell_same k2 h0,cell_same k2 h1⟩
theorem CodeX.fr{X Y:Nat->Prop}{w w':World}{v:Value}{l:List LIns}(h:CodeX X w v l)(hX:∀b,X b->b<w.heap.size->Y b∧w'.heap[b]?=w.heap[b]?):CodeX Y w' v l:=by
 obtain⟨p,cap,e,hs,hc⟩:=h;refine⟨p,cap,e,hs,λi hi=>?_⟩;obtain⟨b,o,av,hx,e2,h0,h1,h2,h3⟩:=hc i hi;obtain⟨k1,k2⟩:=hX b hx (block_lt_of_cell h0);exact⟨b,o,av,k1,e2,cell_same k2 h0,cell_same k2 h1,cell_same k2 h2,h3.fr hX⟩
theorem CodeX.at{X:Nat->Prop}{w:World}{v:Value}{l:List LIns}(h:CodeX X w v l):CodeAt w v l:=by
 obtain⟨p,cap,e,hs,hc⟩:=h;refine⟨p,cap,e,hs,λi hi=>?_⟩;obtain⟨b,o,av,-,e2,h0,h1,h2,p2,c2,e3,hs3,hc3⟩:=hc i hi;refine⟨b,o,av,e2,h0,h1,h2,p2,c2,e3,hs3,λj hj=>?_⟩;obtain⟨b',o',-,r⟩:=hc3 j hj;exact⟨b',o',r⟩
theorem code_rowX{X:Nat->Prop}{w:World}{B:Nat}{v:Value}{L:List (LIns×Value)}(h:w.ownsRow B 37 3 v L.length (L.flatMap insC))(hA:∀x∈L,AltsX X w x.2 x.1.alts)(hX:∀b,B<=b->X b)(hs:short L.length):CodeX X w v (L.map (·.1)):=by
 have hlo:=λb (e:v.ownBlock=some b)=>row_low h e;rcases row_at (row_zero h) with⟨rfl,hn⟩|⟨g,cap,rfl,-,hc⟩
 ·obtain rfl:L=[]:=List.eq_nil_of_length_eq_zero hn;exact⟨none,0,rfl,hs,λi hi=>absurd hi (by simp)⟩
 ·refine⟨_,cap,by rw[List.length_map],by rw[List.length_map];exact hs,λi hi=>?_⟩;have hi':i<L.length:=by simpa using hi
  obtain⟨f0,f1,f2⟩:=flat3_at (λx:LIns×Value=>Value.int .i64 x.1.op) (λx=>Value.int .i64 x.1.a) (λx=>x.2) L i hi';refine⟨g,0,L[i].2,hX g (hlo g rfl),rfl,?_⟩;rw[Nat.zero_add,hc _ (by omega),hc _ (by omega),hc _ (by omega),List.getElem_map];exact⟨f0,f1,f2,hA _ (List.getElem_mem _)⟩
theorem CodeAt.list{w:World}{v:Value}{l:List LIns}(h:CodeAt w v l):∃p cap,∃L:List (LIns×Value),v=.slice p l.length cap∧L.map (·.1)=l∧∀i (hi:i<L.length),∃b o ap an ac,p=some ⟨b,o,none⟩∧L[i].2=.slice ap an ac∧w.cell? ⟨b,o+i*3,none⟩=some (.int .i64 L[i].1.op)∧w.cell? ⟨b,o+i*3+1,none⟩=some (.int .i64 L[i].1.a)∧w.cell? ⟨b,o+i*3+2,none⟩=some (.slice ap an ac)∧AltsAt w (.slice ap an ac) L[i].1.alts:=by
 obtain⟨p,cap,e,-,hc⟩:=h;have hx:∀i,i<l.length->∃av,∀hi:i<l.length,∃b o,p=some ⟨b,o,none⟩∧w.cell? ⟨b,o+i*3,none⟩=some (.int .i64 l[i].op)∧w.cell? ⟨b,o+i*3+1,none⟩=some (.int .i64 l[i].a)∧w.cell? ⟨b,o+i*3+2,none⟩=some av∧AltsAt w av l[i].alts:=λi hi=>by
  obtain⟨b,o,av,h1,h2,h3,h4,h5⟩:=hc i hi;exact⟨av,λ_=>⟨b,o,h1,h2,h3,h4,h5⟩⟩
 have:Inhabited Value:=⟨.nilIface⟩;obtain⟨f,hf⟩:=Go.Deep.choose_lt hx;refine⟨p,cap,(List.range l.length).pmap (λi hi=>(l[i]'hi,f i)) (λi hi=>List.mem_range.1 hi),e,?_,λi hi=>?_⟩
 ·apply List.ext_getElem
  ·simp
  ·intro i h1 h2;simp
 ·have hi':i<l.length:=by simpa using hi
  obtain⟨b,o,h1,h2,h3,h4,h5⟩:=hf i hi' hi';obtain⟨ap,ac,e1,-,-⟩:=id h5;refine⟨b,o,ap,_,ac,h1,by simpa using e1,by simpa using h2,by simpa using h3,by rw[h4,e1],by rw[e1]at h5;simpa using h5⟩
end Go.Proofs.YtlccndplhfcknaaGreatDoor
