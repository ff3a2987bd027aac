import Derived.Test.YtcpcplaeaimmpaaGreatDoorRd2S
import Derived.OpenShut
set_option maxRecDepth 100000
namespace Go.Proofs.YtcpcplaeaimmpaaGreatDoor
open Go.RowKit Go.Sort Go.ChangeShapes Go.WideShapes
theorem one_int2{H:Type}{enc:TypeId×Value->H}{w:World}{spare:Nat->Bool}{held:Bool}{t:TypeId}{fuel:Nat}{cs:List Value}{y:DataW H×List MemPlace}(hu:Tryz.prog.underlying t=some (.int .i64))(h:DataW.trod enc Tryz.prog w 0 spare held fuel t cs=some y):∃n:Int,cs=[.int .i64 n]∧-9223372036854775808<=n∧n<=9223372036854775807:=by
 obtain⟨n,h1,-,h2⟩:=DataW.trod_int hu h;exact⟨n,h1,bounds_i64 h2⟩
theorem ins_of2{H:Type}{enc:TypeId×Value->H}{w:World}{spare:Nat->Bool}{held:Bool}{fuel:Nat}{cs:List Value}{y:DataW H×List MemPlace}(hl:cs.length=3)(h:DataW.trod enc Tryz.prog w 0 spare held fuel 89 cs=some y)(hw:Wt 89 y.1):
 ∃(x:LIns) (av:Value),cs[0]?=some (.int .i64 x.op)∧cs[1]?=some (.int .i64 x.a)∧cs[2]?=some av∧AltsAt w av x.alts∧x.alts.length*16<=140737488351232∧-9223372036854775808<=x.a∧x.a<=9223372036854775807:=by
 obtain⟨y0,y1,y2,n,rfl,-,h0,h1,h2⟩:=Go.Deep.trod_struct3 Tryz.underlying89 h;obtain⟨a,e0⟩:=one_int Tryz.underlying3 h0;obtain⟨b,e1,hb1,hb2⟩:=one_int2 Tryz.underlying3 h1;obtain⟨v,e2,e3⟩:=one_cell (cs:=cs) (i:=2) cells_alts (by omega);have h2':DataW.trod enc Tryz.prog w 0 spare held n 87 ((cs.drop 2).take (Tryz.prog.cellsOf 87))=some y2:=h2;rw[e2]at h2';obtain⟨l,hA,hA2⟩:=alts_of h2' (hw.part Tryz.underlying89 (j:=2) rfl rfl);exact⟨⟨a,b,l⟩,v,one_at cells_int e0,one_at cells_int e1,e3,hA,hA2,hb1,hb2⟩
def RangeC(l:List LIns):Prop:=∀c∈l,-9223372036854775808<=c.a∧c.a<=9223372036854775807
theorem code_of2{H:Type}{enc:TypeId×Value->H}{w:World}{spare:Nat->Bool}{held:Bool}{fuel:Nat}{v:Value}{x:DataW H×List MemPlace}(h:DataW.trod enc Tryz.prog w 0 spare held fuel 59 [v]=some x)(hw:Wt 59 x.1):∃l:List LIns,CodeAt w v l∧(l.length*40<=140737488351232∧∀c∈l,c.alts.length*16<=140737488351232)∧RangeC l:=by
 rcases slice_get Tryz.underlying59 cells_ins (by omega) h hw with rfl|⟨a,len,cap,n,rfl,hs,hx⟩
 ·exact⟨[],⟨none,0,rfl,by simp[short],λi hi=>absurd hi (by simp)⟩,⟨by simp,λc hc=>by cases hc⟩,λc hc=>by cases hc⟩
 ·rw[bytes_ins]at hs;have:Inhabited LIns:=⟨⟨0,0,[]⟩⟩;obtain⟨f,hf⟩:=Go.Deep.choose_lt (α:=LIns) (n:=len) (p:=λi x=>∃b o av,a=⟨b,o,none⟩∧w.cell? ⟨b,o+i*3,none⟩=some (.int .i64 x.op)∧w.cell? ⟨b,o+i*3+1,none⟩=some (.int .i64 x.a)∧w.cell? ⟨b,o+i*3+2,none⟩=some av∧AltsAt w av x.alts∧x.alts.length*16<=140737488351232∧-9223372036854775808<=x.a∧x.a<=9223372036854775807) (λi hi=>by
   obtain⟨b,o,cs,y,rfl,hl,hc,ht,hwt⟩:=hx i hi;obtain⟨x,av,h0,h1,h2,h3⟩:=ins_of2 hl ht hwt;exact⟨x,b,o,av,rfl,(hc 0 (by omega)).trans h0,(hc 1 (by omega)).trans h1,(hc 2 (by omega)).trans h2,h3⟩)
  have hl:((List.range len).map f).length=len:=by simp
  refine⟨(List.range len).map f,⟨some a,cap,by rw[hl],?_,λi hi=>?_⟩,⟨?_,λc hc=>?_⟩,λc hc=>?_⟩
  ·rw[hl];simp only[short];unfold reachBytes at hs;omega
  ·rw[hl]at hi;obtain⟨b,o,av,e,h0,h1,h2,h3,-⟩:=hf i hi;exact⟨b,o,av,by rw[e],by simpa using h0,by simpa using h1,h2,by simpa using h3⟩
  ·rw[hl];unfold reachBytes at hs;omega
  ·simp only[List.mem_map,List.mem_range]at hc;obtain⟨i,hi,rfl⟩:=hc;obtain⟨-,-,-,-,-,-,-,-,h,-⟩:=hf i hi;exact h
  ·simp only[List.mem_map,List.mem_range]at hc;obtain⟨i,hi,rfl⟩:=hc;obtain⟨-,-,-,-,-,-,-,-,-,h⟩:=hf i hi;exact h
theorem glob_of2{H:Type}{enc:TypeId×Value->H}{w:World}{spare:Nat->Bool}{held:Bool}{fuel:Nat}{cs:List Value}{y:DataW H×List MemPlace}(hl:cs.length=4)(h:DataW.trod enc Tryz.prog w 0 spare held fuel 61 cs=some y)(hw:Wt 61 y.1):
 ∃(x:LGlob) (cv:Value),cs[0]?=some (.string x.name)∧cs[1]?=some (.int .i64 x.arity)∧cs[2]?=some (.bool x.exp)∧cs[3]?=some cv∧CodeAt w cv x.code∧x.name.size<=maxLen∧(x.code.length*40<=140737488351232∧∀c∈x.code,c.alts.length*16<=140737488351232)∧RangeC x.code:=by
 obtain⟨y0,y1,y2,y3,n,rfl,-,h0,h1,h2,h3⟩:=Go.Joins.trod_struct4 Tryz.underlying61 h;obtain⟨a,e0,hs⟩:=one_string Tryz.underlying9 h0;obtain⟨b,e1⟩:=one_int Tryz.underlying3 h1;obtain⟨c,e2⟩:=one_bool Tryz.underlying4 h2;obtain⟨v,e3,e4⟩:=one_cell (cs:=cs) (i:=3) cells_code (by omega);have h3':DataW.trod enc Tryz.prog w 0 spare held n 59 ((cs.drop 3).take (Tryz.prog.cellsOf 59))=some y3:=h3;rw[e3]at h3';obtain⟨l,hA,hA2⟩:=code_of2 h3' (hw.part Tryz.underlying61 (j:=3) rfl rfl);exact⟨⟨a,b,c,l⟩,v,one_at cells_string e0,one_at cells_int e1,one_at cells_bool e2,e4,hA,hs,hA2⟩
theorem globs_of2{H:Type}{enc:TypeId×Value->H}{w:World}{spare:Nat->Bool}{held:Bool}{fuel:Nat}{v:Value}{x:DataW H×List MemPlace}(h:DataW.trod enc Tryz.prog w 0 spare held fuel 23 [v]=some x)(hw:Wt 23 x.1):∃l:List LGlob,GlobsAt w v l∧SizedG l∧∀g∈l,RangeC g.code:=by
 rcases slice_get Tryz.underlying23 cells_glob (by omega) h hw with rfl|⟨a,len,cap,n,rfl,hs,hx⟩
 ·exact⟨[],⟨none,0,rfl,by simp[short],λi hi=>absurd hi (by simp)⟩,by simp[SizedG],λg hg=>by cases hg⟩
 ·rw[bytes_glob]at hs;have:Inhabited LGlob:=⟨⟨⟨#[]⟩,0,false,[]⟩⟩;obtain⟨f,hf⟩:=Go.Deep.choose_lt (α:=LGlob) (n:=len) (p:=λi x=>∃b o cv,a=⟨b,o,none⟩∧w.cell? ⟨b,o+i*4,none⟩=some (.string x.name)∧w.cell? ⟨b,o+i*4+1,none⟩=some (.int .i64 x.arity)∧w.cell? ⟨b,o+i*4+2,none⟩=some (.bool x.exp)∧w.cell? ⟨b,o+i*4+3,none⟩=some cv∧CodeAt w cv x.code∧x.name.size<=maxLen∧(x.code.length*40<=140737488351232∧∀c∈x.code,c.alts.length*16<=140737488351232)∧RangeC x.code) (λi hi=>by
   obtain⟨b,o,cs,y,rfl,hl,hc,ht,hwt⟩:=hx i hi;obtain⟨x,cv,h0,h1,h2,h3,h4⟩:=glob_of2 hl ht hwt;exact⟨x,b,o,cv,rfl,(hc 0 (by omega)).trans h0,(hc 1 (by omega)).trans h1,(hc 2 (by omega)).trans h2,(hc 3 (by omega)).trans h3,h4⟩)
  have hl:((List.range len).map f).length=len:=by simp
  refine⟨(List.range len).map f,⟨some a,cap,by rw[hl],?_,λi hi=>?_⟩,⟨?_,λc hc=>?_⟩,λc hc=>?_⟩
  ·rw[hl];simp only[short];unfold reachBytes at hs;omega
  ·rw[hl]at hi;obtain⟨b,o,cv,e,h0,h1,h2,h3,h4,h5,-⟩:=hf i hi;exact⟨b,o,cv,by rw[e],by simpa using h0,by simpa using h1,by simpa using h2,h3,by simpa using h4,by simpa using h5⟩
  ·rw[hl];unfold reachBytes at hs;omega
  ·simp only[List.mem_map,List.mem_range]at hc;obtain⟨i,hi,rfl⟩:=hc;obtain⟨-,-,-,-,-,-,-,-,-,-,h,-⟩:=hf i hi;exact h
  ·simp only[List.mem_map,List.mem_range]at hc;obtain⟨i,hi,rfl⟩:=hc;obtain⟨-,-,-,-,-,-,-,-,-,-,-,h⟩:=hf i hi;exact h
theorem obj_of2{H:Type}{enc:TypeId×Value->H}{w:World}{spare:Nat->Bool}{held:Bool}{r:Reach}{b0:Nat}{v:Value}{d:DataW H}{p:List MemPlace}(hv:Value.okWide Tryz.prog w r b0 25 v)(h:DataW.Trod enc Tryz.prog w 0 spare held 25 v d p)(hw:Wt 25 d):∃O:LObj,ObjAt w v O∧RangeO O:=by
 obtain⟨v0,v1,v2,y0,y1,y2,n,rfl,rfl,-,h0,h1,h2⟩:=Go.Joins.open_agg3 Tryz.underlying25 (by kernel_rfl) (by kernel_rfl) hv h;obtain⟨s,e,hs⟩:=one_string Tryz.underlying9 h0;obtain rfl:v0=.string s:=by simpa using e
 obtain⟨li,hI,-⟩:=imps_of h1 (hw.part Tryz.underlying25 (j:=1) rfl rfl);obtain⟨lg,hG,-,hG3⟩:=globs_of2 h2 (hw.part Tryz.underlying25 (j:=2) rfl rfl);exact⟨⟨s,li,lg⟩,⟨_,_,rfl,hs,hI,hG⟩,λg hg x hx=>hG3 g hg x hx⟩
end Go.Proofs.YtcpcplaeaimmpaaGreatDoor
