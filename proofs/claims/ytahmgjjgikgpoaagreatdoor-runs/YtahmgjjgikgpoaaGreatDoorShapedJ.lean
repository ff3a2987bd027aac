import Derived.Test.YtahmgjjgikgpoaaGreatDoorWildJJ
import Derived.Test.YtahmgjjgikgpoaaGreatDoorVals2J
import Derived.Lib.SmallJoins
import Derived.Deep.Slices
import Derived.SizedLaws
set_option maxRecDepth 100000
set_option maxHeartbeats 8000000
namespace Go.Proofs.YtahmgjjgikgpoaaGreatDoor
open Go.RowKit Go.Sort
theorem ImpsAt.names{w:World}{v:Value}{l:List LImp}(h:ImpsAt w v l):short l.length∧∀i (hi:i<l.length),l[i].name.size<=maxLen:=by
 obtain⟨p,cap,-,hs,hc⟩:=h;refine⟨hs,λi hi=>?_⟩;obtain⟨_,_,-,-,-,h⟩:=hc i hi;exact h
theorem AltsAt.short{w:World}{v:Value}{l:List LAlt}(h:AltsAt w v l):short l.length:=by
 obtain⟨p,cap,-,hs,-⟩:=h;exact hs
theorem CodeAt.shorts{w:World}{v:Value}{l:List LIns}(h:CodeAt w v l):short l.length∧∀j (hj:j<l.length),short l[j].alts.length:=by
 obtain⟨p,cap,-,hs,hc⟩:=h;refine⟨hs,λi hi=>?_⟩;obtain⟨_,_,_,-,-,-,-,h⟩:=hc i hi;exact h.short
theorem GlobsAt.names{w:World}{v:Value}{l:List LGlob}(h:GlobsAt w v l):short l.length∧∀i (hi:i<l.length),l[i].name.size<=maxLen∧short l[i].code.length∧∀j (hj:j<l[i].code.length),short l[i].code[j].alts.length:=by
 obtain⟨p,cap,-,hs,hc⟩:=h;refine⟨hs,λi hi=>?_⟩;obtain⟨_,_,_,-,-,-,-,-,h,hn⟩:=hc i hi;exact⟨hn,h.shorts⟩
theorem room_obj{w w':World}{O:LObj}{iv gv iv' gv':Value}(hO:ObjAt w (.agg #[.string O.name,iv,gv]) O)(hb:Below w.heap.size w w')(hI:RelI iv iv' w' 0 O.imps)(hG:KeptG gv gv' w' O.globs):ObjAt w' (.agg #[.string O.name,iv',gv']) O:=by
 obtain⟨ia,ga,e,hsz,hIA,hGA⟩:=hO;obtain⟨rfl,rfl⟩:iv=ia∧gv=ga:=by simpa using e
 refine⟨iv',gv',rfl,hsz,?_,?_⟩
 ·rcases hI with⟨n,c,-,rfl⟩|⟨a,n,c,-,h⟩
  ·exact hIA.keep hb
  ·exact h.at hIA.names.1 hIA.names.2
 ·rcases hG with⟨n,c,-,rfl⟩|⟨a,n,c,-,h⟩
  ·exact hGA.keep hb
  ·exact h.at hGA.names.1 hGA.names.2
theorem room_slices{w':World}{O:LObj}{iv' gv':Value}(h:ObjAt w' (.agg #[.string O.name,iv',gv']) O):∃p c q d,iv'=.slice p O.imps.length c∧gv'=.slice q O.globs.length d:=by
 obtain⟨ia,ga,e,-,hIA,hGA⟩:=h;obtain⟨rfl,rfl⟩:iv'=ia∧gv'=ga:=by simpa using e
 obtain⟨p,c,rfl,-⟩:=hIA.open;obtain⟨q,d,rfl,-⟩:=hGA.open;exact⟨_,_,_,_,rfl,rfl⟩
theorem KeptI.keep{iv iv':Value}{w w':World}{imps:List LImp}(h:KeptI iv iv' w 0 imps)(hb:Below w.heap.size w w'):KeptI iv iv' w' 0 imps:=by
 rcases h with h|⟨a,n,c,e,h⟩
 ·exact Or.inl h
 ·exact Or.inr ⟨a,n,c,e,h.keep hb⟩
theorem KeptG.keep{gv gv':Value}{w w':World}{globs:List LGlob}(h:KeptG gv gv' w globs)(hb:Below w.heap.size w w'):KeptG gv gv' w' globs:=by
 rcases h with h|⟨a,n,c,e,h⟩
 ·exact Or.inl h
 ·exact Or.inr ⟨a,n,c,e,h.keep hb⟩
theorem lawNum_any(d:Int)(w:World):Calls Tryz.prog 9 #[.int .i64 d] w λe w'=>e=.returned (.int .i64 d)∧w'=w:=by
 go_enter Tryz.func9,Tryz.ntmps9;go_wp2;go_ret;exact⟨rfl,rfl⟩
structure C3 (w:World) (b:Nat) (x y z:Value):Prop where
 c0:w.cell? ⟨b,0,none⟩=some x
 c1:w.cell? ⟨b,1,none⟩=some y
 c2:w.cell? ⟨b,2,none⟩=some z
 lt:b<w.heap.size
theorem C3.keep{w w':World}{b:Nat}{x y z:Value}(h:C3 w b x y z)(hb:Below w.heap.size w w'):C3 w' b x y z:=⟨cell_keep hb h.c0,cell_keep hb h.c1,cell_keep hb h.c2,Nat.lt_of_lt_of_le h.lt hb.size⟩
theorem C3.new(w:World)(x y z:Value)(t:TypeId):C3 (w.alloc (.cells #[x,y,z] t)) w.heap.size x y z:=⟨alloc_cell w #[x,y,z] t 0 _ rfl,alloc_cell w #[x,y,z] t 1 _ rfl,alloc_cell w #[x,y,z] t 2 _ rfl,by simp⟩
structure C2 (w:World) (b:Nat) (x y:Value):Prop where
 c0:w.cell? ⟨b,0,none⟩=some x
 c1:w.cell? ⟨b,1,none⟩=some y
 lt:b<w.heap.size
theorem C2.keep{w w':World}{b:Nat}{x y:Value}(h:C2 w b x y)(hb:Below w.heap.size w w'):C2 w' b x y:=⟨cell_keep hb h.c0,cell_keep hb h.c1,Nat.lt_of_lt_of_le h.lt hb.size⟩
theorem C2.new(w:World)(x y:Value)(t:TypeId):C2 (w.alloc (.cells #[x,y] t)) w.heap.size x y:=⟨alloc_cell w #[x,y] t 0 _ rfl,alloc_cell w #[x,y] t 1 _ rfl,by simp⟩
end Go.Proofs.YtahmgjjgikgpoaaGreatDoor
namespace Go.Proofs.YtahmgjjgikgpoaaGreatDoor
open Go.RowKit Go.Sort Go.ChangeShapes Go.WideShapes
def Wt{H:Type}(t:TypeId)(d:DataW H):Prop:=∀n∈d.weights Tryz.prog t,n<=reachBytes
theorem all_mem{H:Type}{P:Program}{e:TypeId}:∀{l:List (DataW H)} {d:DataW H},d∈l->∀n∈d.weights P e,n∈DataW.weightsAll P e l
 |x::r,d,hd,n,hn=>by
  simp only[DataW.weightsAll,List.mem_append];rcases List.mem_cons.1 hd with rfl|h
  ·exact Or.inl hn
  ·exact Or.inr (all_mem h n hn)
theorem Wt.slice{H:Type}{t e:TypeId}{es sp:List (DataW H)}(hu:Tryz.prog.underlying t=some (.slice e))(h:Wt t (.slice es sp)):es.length*Tryz.prog.bytesOf e<=reachBytes∧∀d∈es,Wt e d:=by
 refine⟨?_,λd hd n hn=>h n ?_⟩
 ·have:=h ((es.length+sp.length)*Tryz.prog.bytesOf e) (by simp[DataW.weights,hu]);exact Nat.le_trans (Nat.mul_le_mul_right _ (by omega)) this
 ·simp only[DataW.weights,hu,List.mem_cons,List.mem_append];exact Or.inr (Or.inl (all_mem hd n hn))
theorem Wt.part{H:Type}{t:TypeId}{fs:Array Field}{parts:List (DataW H)}(hu:Tryz.prog.underlying t=some (.struct fs))(h:Wt t (.agg parts)){j:Nat}{f:Field}{d:DataW H}(hf:fs[j]?=some f)(hd:parts[j]?=some d):Wt f.type d:=by
 intro n hn;refine h n ?_;simp only[DataW.weights,hu];exact DataW.weights_mem_each (j:=j) (t:=f.type) (by simp[hf]) hd n hn
theorem slice_get{H:Type}{enc:TypeId×Value->H}{w:World}{spare:Nat->Bool}{held:Bool}{t e:TypeId}{k fuel:Nat}{v:Value}{x:DataW H×List MemPlace}(hu:Tryz.prog.underlying t=some (.slice e))(hk:Tryz.prog.cellsOf e=k)(hk0:0<k)(h:DataW.trod enc Tryz.prog w 0 spare held fuel t [v]=some x)(hw:Wt t x.1):
 v=.slice none 0 0∨∃a len cap n,v=.slice (some a) len cap∧len*Tryz.prog.bytesOf e<=reachBytes∧
  ∀i,i<len->∃b o cs y,a=⟨b,o,none⟩∧cs.length=k∧(∀j,j<k->w.cell? ⟨b,o+i*k+j,none⟩=cs[j]?)∧DataW.trod enc Tryz.prog w 0 spare held n e cs=some y∧Wt e y.1:=by
 rcases Go.Deep.open_slice hu h with⟨h0,-⟩|⟨a,len,cap,m,n,D,Pl,h0,-,hl,-,hm,rfl,hx⟩
 ·exact Or.inl (by simpa using h0)
 ·obtain rfl:v=.slice (some a) len cap:=by simpa using h0
  obtain⟨hs,he⟩:=hw.slice hu;refine Or.inr ⟨a,len,cap,n,rfl,by simpa using hs,λi hi=>?_⟩;have him:i<m:=by rw[hm];split<;>omega
  obtain⟨cs,hc,ht⟩:=hx i him;rw[hk]at hc;obtain⟨-,hlen,hcell⟩:=World.cells?_some hc;obtain⟨cs0,hc0,-⟩:=hx 0 (by omega);rw[hk]at hc0;obtain⟨-,hlen0,hcell0⟩:=World.cells?_some hc0;obtain⟨b,o,spot⟩:=a;have h1:=hcell0 0 hk0;rw[List.getElem?_eq_getElem (by omega)]at h1;have hspot:spot=none:=by simpa[Addr.add]using World.cell?_spot h1
  subst hspot;refine⟨b,o,cs,_,rfl,hlen,λj hj=>?_,ht,he _ ?_⟩
  ·have:=hcell j hj;rw[add_off,add_off]at this;exact this
  ·simp only[List.mem_map,List.mem_range];exact⟨i,hi,rfl⟩
theorem one_int{H:Type}{enc:TypeId×Value->H}{w:World}{spare:Nat->Bool}{held:Bool}{t:TypeId}{fuel:Nat}{cs:List Value}{y:DataW H×List MemPlace}(hu:Tryz.prog.underlying t=some (.int .i64))(h:DataW.trod enc Tryz.prog w 0 spare held fuel t cs=some y):∃n:Int,cs=[.int .i64 n]:=by
 obtain⟨n,h1,-⟩:=DataW.trod_int hu h;exact⟨n,h1⟩
theorem one_at{cs:List Value}{i k:Nat}{v:Value}(hk:k=1)(h:(cs.drop i).take k=[v]):cs[i]?=some v:=by
 subst hk;have h1:=congrArg (·[0]?) h;simpa[List.getElem?_take,List.getElem?_drop]using h1
theorem one_cell{cs:List Value}{i k:Nat}(hk:k=1)(hi:i<cs.length):∃v,(cs.drop i).take k=[v]∧cs[i]?=some v:=by
 subst hk;exact⟨cs[i],by rw[List.drop_eq_getElem_cons hi];rfl,List.getElem?_eq_getElem hi⟩
theorem cells_int:Tryz.prog.cellsOf 3=1:=by kernel_rfl
theorem cells_bool:Tryz.prog.cellsOf 4=1:=by kernel_rfl
theorem cells_string:Tryz.prog.cellsOf 9=1:=by kernel_rfl
theorem cells_alts:Tryz.prog.cellsOf 41=1:=by kernel_rfl
theorem cells_code:Tryz.prog.cellsOf 44=1:=by kernel_rfl
theorem cells_alt:Tryz.prog.cellsOf 77=2:=by kernel_rfl
theorem cells_ins:Tryz.prog.cellsOf 43=3:=by kernel_rfl
theorem cells_imp:Tryz.prog.cellsOf 72=2:=by kernel_rfl
theorem cells_glob:Tryz.prog.cellsOf 46=4:=by kernel_rfl
theorem bytes_alt:Tryz.prog.bytesOf 77=16:=by kernel_rfl
theorem bytes_ins:Tryz.prog.bytesOf 43=40:=by kernel_rfl
theorem bytes_imp:Tryz.prog.bytesOf 72=24:=by kernel_rfl
theorem bytes_glob:Tryz.prog.bytesOf 46=56:=by kernel_rfl
theorem alt_of{H:Type}{enc:TypeId×Value->H}{w:World}{spare:Nat->Bool}{held:Bool}{fuel:Nat}{cs:List Value}{y:DataW H×List MemPlace}(h:DataW.trod enc Tryz.prog w 0 spare held fuel 77 cs=some y):∃x:LAlt,cs[0]?=some (.int .i64 x.tag)∧cs[1]?=some (.int .i64 x.to):=by
 obtain⟨y0,y1,n,-,-,h0,h1⟩:=trod_struct2 Tryz.underlying77 h;obtain⟨a,e0⟩:=one_int Tryz.underlying3 h0;obtain⟨b,e1⟩:=one_int Tryz.underlying3 h1;exact⟨⟨a,b⟩,one_at cells_int e0,one_at cells_int e1⟩
theorem alts_of{H:Type}{enc:TypeId×Value->H}{w:World}{spare:Nat->Bool}{held:Bool}{fuel:Nat}{v:Value}{x:DataW H×List MemPlace}(h:DataW.trod enc Tryz.prog w 0 spare held fuel 41 [v]=some x)(hw:Wt 41 x.1):∃l:List LAlt,AltsAt w v l∧l.length*16<=140737488351232:=by
 rcases slice_get Tryz.underlying41 cells_alt (by omega) h hw with rfl|⟨a,len,cap,n,rfl,hs,hx⟩
 ·exact⟨[],⟨none,0,rfl,by simp[short],λi hi=>absurd hi (by simp)⟩,by simp⟩
 ·rw[bytes_alt]at hs;have:Inhabited LAlt:=⟨⟨0,0⟩⟩;obtain⟨f,hf⟩:=Go.Deep.choose_lt (α:=LAlt) (n:=len) (p:=λi x=>∃b o,a=⟨b,o,none⟩∧w.cell? ⟨b,o+i*2,none⟩=some (.int .i64 x.tag)∧w.cell? ⟨b,o+i*2+1,none⟩=some (.int .i64 x.to)) (λi hi=>by
   obtain⟨b,o,cs,y,rfl,-,hc,ht,-⟩:=hx i hi;obtain⟨x,h0,h1⟩:=alt_of ht;exact⟨x,b,o,rfl,(hc 0 (by omega)).trans h0,(hc 1 (by omega)).trans h1⟩)
  have hl:((List.range len).map f).length=len:=by simp
  refine⟨(List.range len).map f,⟨some a,cap,by rw[hl],?_,λi hi=>?_⟩,?_⟩
  ·rw[hl];simp only[short];unfold reachBytes at hs;omega
  ·rw[hl]at hi;obtain⟨b,o,e,h0,h1⟩:=hf i hi;exact⟨b,o,by rw[e],by simpa using h0,by simpa using h1⟩
  ·rw[hl];unfold reachBytes at hs;omega
theorem one_string{H:Type}{enc:TypeId×Value->H}{w:World}{spare:Nat->Bool}{held:Bool}{t:TypeId}{fuel:Nat}{cs:List Value}{y:DataW H×List MemPlace}(hu:Tryz.prog.underlying t=some .string)(h:DataW.trod enc Tryz.prog w 0 spare held fuel t cs=some y):∃s:ByteArray,cs=[.string s]∧s.size<=maxLen:=by
 obtain⟨s,h1,-,h2⟩:=DataW.trod_string hu h;exact⟨s,h1,h2⟩
theorem one_bool{H:Type}{enc:TypeId×Value->H}{w:World}{spare:Nat->Bool}{held:Bool}{t:TypeId}{fuel:Nat}{cs:List Value}{y:DataW H×List MemPlace}(hu:Tryz.prog.underlying t=some .bool)(h:DataW.trod enc Tryz.prog w 0 spare held fuel t cs=some y):∃b:Bool,cs=[.bool b]:=by
 obtain⟨b,h1,-⟩:=DataW.trod_bool hu h;exact⟨b,h1⟩
theorem imp_of{H:Type}{enc:TypeId×Value->H}{w:World}{spare:Nat->Bool}{held:Bool}{fuel:Nat}{cs:List Value}{y:DataW H×List MemPlace}(h:DataW.trod enc Tryz.prog w 0 spare held fuel 72 cs=some y):∃x:LImp,cs[0]?=some (.string x.name)∧cs[1]?=some (.int .i64 x.arity)∧x.name.size<=maxLen:=by
 obtain⟨y0,y1,n,-,-,h0,h1⟩:=trod_struct2 Tryz.underlying72 h;obtain⟨a,e0,hs⟩:=one_string Tryz.underlying9 h0;obtain⟨b,e1⟩:=one_int Tryz.underlying3 h1;exact⟨⟨a,b⟩,one_at cells_string e0,one_at cells_int e1,hs⟩
theorem imps_of{H:Type}{enc:TypeId×Value->H}{w:World}{spare:Nat->Bool}{held:Bool}{fuel:Nat}{v:Value}{x:DataW H×List MemPlace}(h:DataW.trod enc Tryz.prog w 0 spare held fuel 48 [v]=some x)(hw:Wt 48 x.1):∃l:List LImp,ImpsAt w v l∧l.length*24<=140737488351232:=by
 rcases slice_get Tryz.underlying48 cells_imp (by omega) h hw with rfl|⟨a,len,cap,n,rfl,hs,hx⟩
 ·exact⟨[],⟨none,0,rfl,by simp[short],λi hi=>absurd hi (by simp)⟩,by simp⟩
 ·rw[bytes_imp]at hs;have:Inhabited LImp:=⟨⟨⟨#[]⟩,0⟩⟩;obtain⟨f,hf⟩:=Go.Deep.choose_lt (α:=LImp) (n:=len) (p:=λi x=>∃b o,a=⟨b,o,none⟩∧w.cell? ⟨b,o+i*2,none⟩=some (.string x.name)∧w.cell? ⟨b,o+i*2+1,none⟩=some (.int .i64 x.arity)∧x.name.size<=maxLen) (λi hi=>by
   obtain⟨b,o,cs,y,rfl,-,hc,ht,-⟩:=hx i hi;obtain⟨x,h0,h1,h2⟩:=imp_of ht;exact⟨x,b,o,rfl,(hc 0 (by omega)).trans h0,(hc 1 (by omega)).trans h1,h2⟩)
  have hl:((List.range len).map f).length=len:=by simp
  refine⟨(List.range len).map f,⟨some a,cap,by rw[hl],?_,λi hi=>?_⟩,?_⟩
  ·rw[hl];simp only[short];unfold reachBytes at hs;omega
  ·rw[hl]at hi;obtain⟨b,o,e,h0,h1,h2⟩:=hf i hi;exact⟨b,o,by rw[e],by simpa using h0,by simpa using h1,by simpa using h2⟩
  ·rw[hl];unfold reachBytes at hs;omega
end Go.Proofs.YtahmgjjgikgpoaaGreatDoor
namespace Go.Proofs.YtahmgjjgikgpoaaGreatDoor
open Go.RowKit
theorem hid2{p:Prop}(h:p):Hid p:=h
theorem nodup_le:∀(n:Nat) (l:List Nat),l.Nodup->(∀x∈l,x<n)->l.length<=n
 |0,l,_,h=>by
  cases l with
  |nil=>simp
  |cons a r=>exact absurd (h a (by simp)) (by omega)
 |n+1,l,hd,h=>by
  have h1:(l.erase n).Nodup:=hd.erase n;have h2:∀x∈l.erase n,x<n:=λx hx=>by
   have h3:=List.mem_of_mem_erase hx;have h4:x≠n:=λe=>by subst e;exact(List.Nodup.not_mem_erase hd) hx
   have:=h x h3;omega
  have h5:=nodup_le n (l.erase n) h1 h2;by_cases hm:n∈l
  ·have:=List.length_erase_of_mem hm;omega
  ·rw[List.erase_of_not_mem hm]at h5;omega
theorem altsB_len(l:List LAlt)(h:altsB l=true):l.length<=256:=by
 obtain⟨h1,h2⟩:=(altsB_iff l).1 h;have hr:∀j (hj:j<l.length),0<=l[j].tag∧l[j].tag<=255:=λj hj=>by
  have:=h1 j hj hj;simp only[altOk,Bool.and_eq_true,decide_eq_true_eq]at this;omega
 have:=nodup_le 256 (l.map λa=>a.tag.toNat) ?_ ?_
 ·simpa using this
 ·rw[List.nodup_iff_pairwise_ne,List.pairwise_iff_getElem];intro i j hi hj hij;simp only[List.length_map]at hi hj;have a1:=h2 i j hi hj hij hj;have a2:=hr i hi;have a3:=hr j hj;simp only[List.getElem_map];omega
 ·intro x hx;obtain⟨a,ha,rfl⟩:=List.mem_map.1 hx;obtain⟨i,hi,rfl⟩:=List.mem_iff_getElem.1 ha;have:=hr i hi;omega
theorem altsGood_eq(l:List LAlt):altsGood l=(altsB l && decide (0<l.length)):=by
 unfold altsGood;cases h:altsB l with
 |true=>simp[altsB_len l h]
 |false=>simp
theorem insG_row(k:Nat)(hk:k<21)(a:Int)(alts:List LAlt):insG k a alts=
 if rowN k 0=1 then (alts.length:Int)==0 else if rowN k 0=2 then ((alts.length:Int)==0) && decide (rowN k 1<=a) && decide (a<=rowN k 2) else if rowN k 0=3 then (a==0) && altsGood alts else (a==0) && ((alts.length:Int)==0):=by
 simp only[insG];rw[if_pos (by omega)];rfl
theorem refFits_case(a:Int)(alts:List LAlt)(av:Value)(w:World)(hA:AltsAt w av alts)(ha:a=0):
 Calls Tryz.prog 52 #[.agg #[.int .i64 17,.int .i64 a,av]] w λe w'=>e=.returned (.bool (altsGood alts))∧Below w.heap.size w w':=by
 subst ha;obtain⟨p,cap,rfl,hs1,hcell⟩:=hA.open;have HC:Hid (∀w',Below w.heap.size w w'->AltsIn w' p alts):=hcell;have HB:Hid (∀w,Calls Tryz.prog 72 #[.int .i64 17] w λe w'=>e=.returned (.tuple #[.int .i64 1,.int .i64 0])∧w'=w):=λw=>refBounds_any 17 (by omega) w;have HG:=hid2 (altsGood_eq alts);clear hcell hA;go_enter Tryz.func52,Tryz.ntmps52;go_wp2_with (first|(go_at_call 72;refine(HB.out _).mono ?_;rintro e w1 ⟨rfl,rfl⟩))
 go_loopw [5] (λi wr=>∃k:Nat,k<=alts.length∧i=.int .i64 k∧Hid (altsUpto alts k)∧wr.cell? ⟨w.heap.size,0,none⟩=some (.int .i64 17)∧wr.cell? ⟨w.heap.size,2,none⟩=some (.slice p alts.length cap)∧Below w.heap.size w wr∧w.heap.size<wr.heap.size) (λi _=>alts.length-(intOf i).toNat)
 case atStart=>exact⟨0,Nat.zero_le _,rfl,altsUpto_zero _,by simp,by simp,(Below.refl _ _).alloc (Nat.le_refl _) _,by simp⟩
 case round=>
  obtain⟨k,hk,rfl,ha,q0,q2,hb,hz⟩:=hrel;by_cases hlt:k<alts.length
  ·obtain⟨b,o,rfl,c0,c1⟩:=HC.out _ hb k hlt;have HTG:=hid2 (Eq.refl alts[k].tag);by_cases hok:altOk alts[k]=true
   ·have hok2:0<=alts[k].tag∧alts[k].tag<=255∧0<=alts[k].to∧alts[k].to<=65535:=by
     simp only[altOk,Bool.and_eq_true,decide_eq_true_eq]at hok;omega
    obtain⟨k1,k2,k3,k4⟩:=hok2;have HOK:Hid (altOk alts[k]=true):=hok;have hbs:Nat.ble 0 0=true:=rfl;clear hok hbs;generalize htg:alts[k].tag=tg at*;have HT:Hid (alts[k].tag=tg):=htg;clear htg HTG;generalize alts[k].to=tto at*;have t1:decide (tg<0)=false:=by simp;omega
    have t2:decide (255<tg)=false:=by simp;omega
    have t3:decide (tto<0)=false:=by simp;omega
    have t4:decide (65535<tto)=false:=by simp;omega
    rename World=>W0
    go_wp2;go_loopw [7] (λs wx=>∃j:Nat,j<=k∧s=.int .i64 j∧Hid (∀i (hi:i<alts.length),i<j->alts[i].tag≠alts[k].tag)∧wx.cell? ⟨W0.heap.size,0,none⟩=some (.int .i64 tg)∧wx.cell? ⟨w.heap.size,0,none⟩=some (.int .i64 17)∧wx.cell? ⟨w.heap.size,2,none⟩=some (.slice (some ⟨b,o,none⟩) alts.length cap)∧Below w.heap.size w wx∧w.heap.size<wx.heap.size) (λs _=>k-(intOf s).toNat)
    case atStart=>exact⟨0,Nat.zero_le _,rfl,λ_ _ h=>absurd h (by omega),by simp,by rw[World.cell?_alloc_lt _ _ _ hz];exact q0,by rw[World.cell?_alloc_lt _ _ _ hz];exact q2,hb.alloc hb.size _,by simp;omega⟩
    case round=>
     obtain⟨j,hj,rfl,hd,y1,y2,y3,hbx,hzx⟩:=hrel;clear q0 q2 c0 c1 t1 t2 t3 t4 hb hz;by_cases hjl:j<k
     ·obtain⟨b',o',e,x0,x1⟩:=HC.out _ hbx j (by omega);obtain⟨rfl,rfl⟩:b=b'∧o=o':=by simpa using e
      have hj1:(0:Int)<=(j:Int):=by omega
      have hj2:(j:Int)<(alts.length:Int):=by omega
      have HTW:Hid (alts[j].tag=tg->altsB alts=false):=λh=>altsB_twice alts k hlt ⟨j,by omega,hjl,by rw[HT.out];exact h⟩;have HND:Hid (alts[j].tag≠tg->∀i (hi:i<alts.length),i<j+1->alts[i].tag≠alts[k].tag):=by
       intro h i hi hij;by_cases e:i=j
       ·subst e;rw[HT.out];exact h
       ·exact hd.out i hi (by omega)
      clear e x1;generalize alts[j].tag=tj at*;go_wp2;go_quiet (fail);go_wp2;any_goals
       go_ret;exact⟨ret_bool (by rw[HG.out,HTW.out (by simp_all)];rfl),below_drewN hbx _⟩
      all_goals exact⟨⟨j+1,by omega,by go_num,HND.out (by simp_all),y1,y2,y3,below_drewN hbx _,hzx⟩,by simp[intOf];omega⟩
     ·go_wp2;exact⟨⟨k+1,by omega,by go_num,altsUpto_next alts k hlt ha.out HOK.out (λi hi hik=>hd.out i hi (by omega)),y2,y3,hbx,hzx⟩,by simp[intOf];omega⟩
   ·have hok2:alts[k].tag<0∨255<alts[k].tag∨alts[k].to<0∨65535<alts[k].to:=by
     have:altOk alts[k]=false:=by simpa using hok
     simp only[altOk,Bool.and_eq_false_iff,decide_eq_false_iff_not]at this;omega
    have HBad:Hid (altsB alts=false):=altsB_bad alts k hlt (by simpa using hok);clear hok HTG;generalize alts[k].tag=tg at*;generalize alts[k].to=tto at*;go_wp2;all_goals
     go_ret;exact⟨ret_bool (by rw[HG.out,HBad.out];rfl),hb.alloc hb.size _⟩
  ·have HE:Hid (altsB alts=true):=(altsB_iff alts).2 (by have:=ha.out;rw[show k=alts.length by omega]at this;exact this);go_wp2;go_ret;refine⟨ret_bool ?_,hb⟩;rw[HG.out,HE.out,Bool.true_and]
theorem bd_facts(k:Nat)(hk:k<21)(h17:k≠17):
 (rowN k 0=2∧(if k=7 then (1:Int) else if rowN k 0=2 then 0 else 1)=rowN k 1∧(if rowN k 0=2 then rowN k 2 else 0)=rowN k 2∧rowN k 1<=rowN k 2∧k≠0)∨k=0∨
 (rowN k 0=0∧(if k=7 then (1:Int) else if rowN k 0=2 then 0 else 1)=1∧(if rowN k 0=2 then rowN k 2 else 0)=0∧k≠0):=by
 rcases all21 k hk with rfl|rfl|rfl|rfl|rfl|rfl|rfl|rfl|rfl|rfl|rfl|rfl|rfl|rfl|rfl|rfl|rfl|rfl|rfl|rfl|rfl;all_goals first|(exact absurd rfl h17)|decide
theorem refFits_any(op a:Int)(alts:List LAlt)(av:Value)(w:World)(hA:AltsAt w av alts):
 Calls Tryz.prog 52 #[.agg #[.int .i64 op,.int .i64 a,av]] w λe w'=>e=.returned (.bool (insG op a alts))∧Below w.heap.size w w':=by
 obtain⟨p,cap,rfl,hs1,-⟩:=hA.open;by_cases ho:0<=op∧op<21
 ·obtain⟨k,rfl⟩:=Int.eq_ofNat_of_zero_le ho.1;have hk:k<21:=by omega
  have hR:=insG_row k hk a alts;by_cases h17:k=17
  ·subst h17;have e0:rowN 17 0=3:=rfl;rw[e0]at hR;by_cases ha:a=0
   ·have:insG ((17:Nat):Int) a alts=altsGood alts:=by rw[hR];simp[ha]
    rw[this];exact refFits_case a alts _ w hA ha
   ·have HF:Hid (insG ((17:Nat):Int) a alts=false):=by show _=_;rw[hR];simp[ha]
    have hb:(a !=0)=true:=by simp[ha]
    have HB:Hid (∀w,Calls Tryz.prog 72 #[.int .i64 17] w λe w'=>e=.returned (.tuple #[.int .i64 1,.int .i64 0])∧w'=w):=λw=>refBounds_any 17 (by omega) w;clear hR hA ho;go_enter Tryz.func52,Tryz.ntmps52;go_wp2_with (first|(go_at_call 72;refine(HB.out _).mono ?_;rintro e w1 ⟨rfl,rfl⟩))
    go_ret;exact⟨ret_bool HF.out.symm,(Below.refl _ _).alloc (Nat.le_refl _) _⟩
  ·have hkz:decide ((k:Int)<0)=false:=by rw[decide_eq_false_iff_not];omega
   have hkm:decide (20<(k:Int))=false:=by rw[decide_eq_false_iff_not];omega
   have hk17:((k:Int) !=17)=true:=by rw[bne_iff_ne];omega
   have hf:=bd_facts k hk h17;have HB0:=hid2 (λw=>refBounds_any k hk w);by_cases hn:alts.length=0
   ·have hn1:((alts.length:Int)==0)=true:=by simp[hn]
    have hn2:((alts.length:Int) !=0)=false:=by simp[hn]
    rw[hn1]at hR;have HR:=hid2 hR;clear hR hA ho hn1;generalize alts.length=n at*;subst hn;rcases hf with⟨f0,f1,f2,f3,f4⟩|rfl|⟨f0,f1,f2,f4⟩
    ·have HB:Hid (∀w,Calls Tryz.prog 72 #[.int .i64 k] w λe w'=>e=.returned (.tuple #[.int .i64 (rowN k 1),.int .i64 (rowN k 2)])∧w'=w):=λw=>by have:=HB0.out w;rw[f1,f2]at this;exact this
     have HR2:Hid (insG k a alts=(decide (rowN k 1<=a) && decide (a<=rowN k 2))):=by show _=_;rw[HR.out,f0];simp
     clear f0 f1 f2 f4 HR HB0;generalize rowN k 1=r1 at*;generalize rowN k 2=r2 at*;go_enter Tryz.func52,Tryz.ntmps52;go_wp2_with (first|(go_at_call 72;refine(HB.out _).mono ?_;rintro e w1 ⟨rfl,rfl⟩))
     all_goals
      go_ret;refine⟨ret_bool ?_,(Below.refl _ _).alloc (Nat.le_refl _) _⟩;rw[HR2.out];simp_all;try omega
    ·have HB:Hid (∀w,Calls Tryz.prog 72 #[.int .i64 0] w λe w'=>e=.returned (.tuple #[.int .i64 1,.int .i64 0])∧w'=w):=λw=>HB0.out w;have HR2:Hid (insG ((0:Nat):Int) a alts=true):=by show _=_;rw[HR.out];rfl
     clear HR HB0 hk17 hkz hkm;go_enter Tryz.func52,Tryz.ntmps52;go_wp2_with (first|(go_at_call 72;refine(HB.out _).mono ?_;rintro e w1 ⟨rfl,rfl⟩))
     go_ret;exact⟨ret_bool HR2.out.symm,(Below.refl _ _).alloc (Nat.le_refl _) _⟩
    ·have HB:Hid (∀w,Calls Tryz.prog 72 #[.int .i64 k] w λe w'=>e=.returned (.tuple #[.int .i64 1,.int .i64 0])∧w'=w):=λw=>by have:=HB0.out w;rw[f1,f2]at this;exact this
     have HR2:Hid (insG k a alts=(a==0)):=by show _=_;rw[HR.out,f0];simp
     have hk0:((k:Int)==0)=false:=by rw[beq_eq_false_iff_ne];omega
     clear f0 f1 f2 f4 HR HB0;cases ha:(a !=0)
     ·have ea:(a==0)=true:=by simpa using ha
      rw[ea]at HR2;go_enter Tryz.func52,Tryz.ntmps52;go_wp2_with (first|(go_at_call 72;refine(HB.out _).mono ?_;rintro e w1 ⟨rfl,rfl⟩))
      refine wp_loop_rounds 1 ?_;rw[rounds_succ];go_wp2;go_ret;exact⟨ret_bool HR2.out.symm,(Below.refl _ _).alloc (Nat.le_refl _) _⟩
     ·have ea:(a==0)=false:=by simpa using ha
      rw[ea]at HR2;go_enter Tryz.func52,Tryz.ntmps52;go_wp2_with (first|(go_at_call 72;refine(HB.out _).mono ?_;rintro e w1 ⟨rfl,rfl⟩))
      go_ret;exact⟨ret_bool HR2.out.symm,(Below.refl _ _).alloc (Nat.le_refl _) _⟩
   ·have hn1:((alts.length:Int)==0)=false:=by rw[beq_eq_false_iff_ne];omega
    have hn2:((alts.length:Int) !=0)=true:=by rw[bne_iff_ne];omega
    have HF:Hid (insG k a alts=false):=by
     show _=_;rw[hR,hn1];rcases hf with⟨f0,-⟩|rfl|⟨f0,-⟩
     ·rw[f0];simp
     ·rfl
     ·rw[f0];simp
    clear hR hA ho hf HB0;go_enter Tryz.func52,Tryz.ntmps52;go_wp2;go_ret;exact⟨ret_bool HF.out.symm,(Below.refl _ _).alloc (Nat.le_refl _) _⟩
 ·have HF:Hid (insG op a alts=false):=by show _=_;simp only[insG];rw[if_neg ho]
  clear hA;by_cases h0:op<0
  ·go_enter Tryz.func52,Tryz.ntmps52;go_wp2;go_ret;exact⟨ret_bool HF.out.symm,(Below.refl _ _).alloc (Nat.le_refl _) _⟩
  ·have h20:20<op:=by omega
   clear ho;go_enter Tryz.func52,Tryz.ntmps52;go_wp2;go_ret;exact⟨ret_bool HF.out.symm,(Below.refl _ _).alloc (Nat.le_refl _) _⟩
end Go.Proofs.YtahmgjjgikgpoaaGreatDoor
namespace Go.Proofs.YtahmgjjgikgpoaaGreatDoor
open Go.RowKit Go.Sort
def noN(l:List LImp)(n:ByteArray)(j:Nat):Bool:=(l.take j).all λx=>!(x.name.toList==n.toList)
theorem noN_next(l:List LImp)(n:ByteArray)(j:Nat)(hj:j<l.length):noN l n (j+1)=(noN l n j && !(l[j].name.toList==n.toList)):=by
 unfold noN;rw[List.take_succ_eq_append_getElem hj,List.all_append];simp
theorem noN_all(l:List LImp)(n:ByteArray):noN l n l.length=!hasN l n:=by
 unfold noN hasN;rw[List.take_length,List.all_eq_not_any_not];congr 1
 congr 1
 funext x
 rw[Bool.not_not,Bool.eq_iff_iff,beq_iff_eq,decide_eq_true_eq,cmpB_eq0,ByteArray.toList_eq,ByteArray.toList_eq];constructor
 ·intro h;obtain⟨⟨⟨x⟩⟩,_⟩:=x;obtain⟨⟨y⟩⟩:=n;simp at h;simp[h]
 ·rintro rfl;rfl
def insUpto(code:List LIns)(j:Nat):Bool:=(code.take j).all λx=>insG x.op x.a x.alts
theorem insUpto_next(code:List LIns)(j:Nat)(hj:j<code.length):insUpto code (j+1)=(insUpto code j && insG code[j].op code[j].a code[j].alts):=by
 unfold insUpto;rw[List.take_succ_eq_append_getElem hj,List.all_append];simp
theorem Shaped_any(O:LObj)(v:Value)(w:World)(hO:ObjAt w v O):
 Calls Tryz.prog 31 #[v] w λe w'=>e=.returned (.bool (valsG O))∧Below w.heap.size w w':=by
 obtain⟨iv,gv,rfl,hsz,hI,hG⟩:=hO;obtain⟨ip,ic,rfl,hi1,hicell⟩:=hI.open;obtain⟨p,cap,rfl,hs1,hcell⟩:=hG.open;have HC:Hid (∀w',Below w.heap.size w w'->GlobsIn w' p O.globs):=hcell;have HCI:Hid (∀w',Below w.heap.size w w'->ImpsIn w' ip O.imps):=hicell;have HV:Hid (valsG O=(nmB O.name && impsFrom ⟨#[]⟩ O.imps && globsFrom O.imps ⟨#[]⟩ O.globs)):=rfl;clear hcell hicell hG hI;generalize valsG O=V at*;generalize O.name=onm at*;generalize O.imps=imps at*;generalize O.globs=globs at*;go_enter Tryz.func31,Tryz.ntmps31;go_wp2_with (first|(go_at_call 51;refine(isName_any _ _ hsz).mono ?_;rintro e w' ⟨rfl,rfl⟩))
 go_loopw [3,4,5] (λs3 s4 s5 wr=>∃(k:Nat) (last:ByteArray) (ok:Bool),k<=imps.length∧s3=.bool ok∧s4=.string last∧s5=.int .i64 k∧Hid (V=(ok && impsFrom last (imps.drop k) && globsFrom imps ⟨#[]⟩ globs))∧Hid (Below w.heap.size w wr)∧wr.cell? ⟨w.heap.size,1,none⟩=some (.slice ip imps.length ic)∧wr.cell? ⟨w.heap.size,2,none⟩=some (.slice p globs.length cap)∧w.heap.size<wr.heap.size) (λ_ _ s5 _=>imps.length-(intOf s5).toNat)
 case atStart=>exact⟨0,_,_,Nat.zero_le _,rfl,rfl,rfl,HV,(Below.refl _ _).alloc (Nat.le_refl _) _,by simp,by simp,by simp⟩
 case round=>
  obtain⟨k,last,ok,hk,rfl,rfl,rfl,ha,hb,q1,q2,hz⟩:=hrel;clear HV;by_cases hlt:k<imps.length
  ·obtain⟨b,o,rfl,c0,c1,hn1⟩:=HCI.out _ hb.out k hlt;have HS:Hid (∀okN:Bool,(ok && (nmB imps[k].name && gtB imps[k].name last && (decide (0<=imps[k].arity) && decide (imps[k].arity<=20))))=okN->V=(okN && impsFrom imps[k].name (imps.drop (k+1)) && globsFrom imps ⟨#[]⟩ globs)):=by
    intro okN h;rw[ha.out,impsFrom_at last imps k hlt,<-h];unfold arB;simp only[Bool.and_assoc]
   clear ha;generalize imps[k].name=nm at*;generalize imps[k].arity=ar at*;have hg2:=le_eq nm last;generalize gtB nm last=gt at*;have HNM:Hid (∀w,Calls Tryz.prog 51 #[.string nm] w λe w'=>e=.returned (.bool (nmB nm))∧w'=w):=λw=>isName_any _ w hn1;generalize nmB nm=nmb at*;have hbs:=hb.out.size;go_wp2_with (first|(go_at_call 51;refine(HNM.out _).mono ?_;rintro e w' ⟨rfl,rfl⟩))
   all_goals exact⟨⟨k+1,nm,_,by omega,rfl,rfl,by go_num,HS.out _ (by clear HC HCI HNM HS;first|(simp_all;done)|(simp_all;omega)),hb.out.alloc hbs _,cell_keep ((Below.refl _ _).alloc (Nat.le_refl _) _) q1,cell_keep ((Below.refl _ _).alloc (Nat.le_refl _) _) q2,by simp;omega⟩,by simp[intOf];omega⟩
  ·have HV:Hid (V=(ok && globsFrom imps ⟨#[]⟩ globs)):=by
    show _=_;rw[ha.out,List.drop_of_length_le (by omega)];simp[impsFrom]
   clear ha;rename World=>W1
   go_wp2;go_loopw [3,4,8] (λs3 s4 s8 wr=>∃(k:Nat) (last:ByteArray) (ok:Bool),k<=globs.length∧s3=.bool ok∧s4=.string last∧s8=.int .i64 k∧Hid (V=(ok && globsFrom imps last (globs.drop k)))∧Hid (Below w.heap.size w wr)∧wr.cell? ⟨w.heap.size,1,none⟩=some (.slice ip imps.length ic)∧wr.cell? ⟨w.heap.size,2,none⟩=some (.slice p globs.length cap)∧w.heap.size<wr.heap.size) (λ_ _ s8 _=>globs.length-(intOf s8).toNat)
   case atStart=>exact⟨0,_,_,Nat.zero_le _,rfl,rfl,rfl,HV,hb,q1,q2,hz⟩
   case round=>
    clear HV hb q1 q2 hz;obtain⟨k,last,ok,hk,rfl,rfl,rfl,ha,hb,q1,q2,hz⟩:=hrel;by_cases hlt:k<globs.length
    ·obtain⟨b,o,cp,cn,cc,rfl,c0,c1,c2,c3,hC,hn1⟩:=HC.out _ hb.out k hlt;obtain⟨_,_,e3,hcl,hcc⟩:=hC.open;obtain⟨rfl,rfl,rfl⟩:cp=_∧cn=globs[k].code.length∧cc=_:=by simpa using e3
     have HCC:Hid (∀w',Below wr.heap.size wr w'->CodeIn w' cp globs[k].code):=hcc;have HS:Hid (∀okN:Bool,((ok && (nmB globs[k].name && gtB globs[k].name last && (decide (0<=globs[k].arity) && decide (globs[k].arity<=20)) && decide ((globs[k].code.length:Int)<=65535))) && noN imps globs[k].name imps.length && insUpto globs[k].code globs[k].code.length)=okN->V=(okN && globsFrom imps globs[k].name (globs.drop (k+1)))):=by
      intro okN h;rw[ha.out,globsFrom_at imps last globs k hlt,<-h,noN_all];unfold arB codeG insUpto;rw[List.take_length];have e:decide ((globs[k].code.length:Int)<=65535)=decide (globs[k].code.length<=65535):=by apply decide_eq_decide.2;omega
      rw[e];generalize nmB globs[k].name=b1;generalize gtB globs[k].name last=b2;generalize decide (0<=globs[k].arity)=b3;generalize decide (globs[k].arity<=20)=b4;generalize decide (globs[k].code.length<=65535)=b5;generalize hasN imps globs[k].name=b6;generalize (globs[k].code.all λx=>insG x.op x.a x.alts)=b7;generalize globsFrom imps globs[k].name (globs.drop (k+1))=b8;cases ok<;>cases b1<;>cases b2<;>cases b3<;>cases b4<;>cases b5<;>cases b6<;>cases b7<;>cases b8<;>rfl
     clear ha hcc e3 hC;generalize globs[k].name=nm at*;generalize globs[k].arity=ar at*;generalize globs[k].exp=ex at*;generalize globs[k].code=code at*;have hg2:=le_eq nm last;have HNM:Hid (∀w,Calls Tryz.prog 51 #[.string nm] w λe w'=>e=.returned (.bool (nmB nm))∧w'=w):=λw=>isName_any _ w hn1;generalize gtB nm last=gt at*;generalize nmB nm=nmb at*;have hbs:=hb.out.size;obtain⟨okA,hokA⟩:∃okA:Bool,(ok && (nmb && gt && (decide (0<=ar) && decide (ar<=20)) && decide ((code.length:Int)<=65535)))=okA:=⟨_,rfl⟩;have HOK:Hid ((ok && (nmb && gt && (decide (0<=ar) && decide (ar<=20)) && decide ((code.length:Int)<=65535)))=okA):=hokA;have HS2:Hid (∀okN:Bool,(okA && noN imps nm imps.length && insUpto code code.length)=okN->V=(okN && globsFrom imps nm (globs.drop (k+1)))):=by
      intro okN h;exact HS.out okN (by rw[hokA];exact h)
     clear hokA HS;rename World=>W2
     have hba:∀ob,Below W2.heap.size W2 (W2.alloc ob):=λob=>(Below.refl _ _).alloc (Nat.le_refl _) _;have HBA:Hid (∀ob,Below W2.heap.size W2 (W2.alloc ob)):=hba;clear hba;go_wp2_with (first|(go_at_call 51;refine(HNM.out _).mono ?_;rintro e w' ⟨rfl,rfl⟩))
     all_goals
      go_loopw [3,11] (λs3 s11 wr=>∃(j:Nat) (okj:Bool),j<=imps.length∧s3=.bool okj∧s11=.int .i64 j∧Hid (okj=(okA && noN imps nm j))∧Hid (Below W2.heap.size W2 wr)∧wr.cell? ⟨w.heap.size,1,none⟩=some (.slice ip imps.length ic)∧wr.cell? ⟨W2.heap.size,0,none⟩=some (.string nm)∧wr.cell? ⟨W2.heap.size,3,none⟩=some (.slice cp code.length cc)∧W2.heap.size<wr.heap.size) (λ_ s11 _=>imps.length-(intOf s11).toNat)
      case atStart=>
       refine⟨0,_,Nat.zero_le _,rfl,rfl,?_,HBA.out _,cell_keep (HBA.out _) q1,by simp,by simp,by simp⟩;show _=_;rw[<-HOK.out];clear HC HCI HNM HS2 HCC HOK;first|(simp_all[noN];done)|(simp_all[noN];omega)
      case round=>
       obtain⟨j,okj,hj,rfl,rfl,he,hbj,r1,g0,g3,hzj⟩:=hrel;by_cases hjl:j<imps.length
       ·obtain⟨b2,o2,rfl,y0,y1,-⟩:=HCI.out _ (hb.out.trans (hbj.out.mono hbs)) j hjl;have HE:Hid (∀okN:Bool,(okj && !(imps[j].name.toList==nm.toList))=okN->okN=(okA && noN imps nm (j+1))):=by
         intro okN h;rw[noN_next imps nm j hjl,<-h,he.out,Bool.and_assoc]
        generalize imps[j].name=n2 at*;generalize imps[j].arity=a2 at*;cases okj
        ·go_wp2;go_quiet (fail);go_wp2;exact⟨⟨j+1,_,by omega,rfl,by go_num,HE.out _ rfl,below_drewN hbj.out _,r1,g0,g3,hzj⟩,by simp[intOf];omega⟩
        ·go_wp2;go_quiet (fail);go_wp2;exact⟨⟨j+1,_,by omega,rfl,by go_num,HE.out _ rfl,below_drewN hbj.out _,r1,g0,g3,hzj⟩,by simp[intOf];omega⟩
       ·have HE2:Hid (okj=(okA && noN imps nm imps.length)):=by
         show _=_;rw[he.out,show j=imps.length by omega]
        clear he;rename World=>W4
        go_wp2;go_loopw [3,12] (λs3 s12 wr=>∃(i:Nat) (oki:Bool),i<=code.length∧s3=.bool oki∧s12=.int .i64 i∧Hid (oki=(okA && noN imps nm imps.length && insUpto code i))∧Hid (Below W2.heap.size W2 wr)∧wr.cell? ⟨W2.heap.size,3,none⟩=some (.slice cp code.length cc)∧W2.heap.size<wr.heap.size) (λ_ s12 _=>code.length-(intOf s12).toNat)
        case atStart=>exact⟨0,_,Nat.zero_le _,rfl,rfl,by show _=_;rw[HE2.out];simp[insUpto],hbj,g3,hzj⟩
        case round=>
         obtain⟨i,oki,hi,rfl,rfl,he,hbi,g3,hzi⟩:=hrel;clear HE2 hbj hzj;by_cases hil:i<code.length
         ·obtain⟨b3,o3,ap,an,ac,rfl,x0,x1,x2,hA⟩:=HCC.out _ hbi.out i hil;have HFT:Hid (Calls Tryz.prog 52 #[.agg #[.int .i64 code[i].op,.int .i64 code[i].a,.slice ap an ac]] wr λe w'=>e=.returned (.bool (insG code[i].op code[i].a code[i].alts))∧Below wr.heap.size wr w'):=refFits_any _ _ code[i].alts _ wr hA;have HE:Hid (∀okN:Bool,(oki && insG code[i].op code[i].a code[i].alts)=okN->okN=(okA && noN imps nm imps.length && insUpto code (i+1))):=by
           intro okN h;rw[insUpto_next code i hil,<-h,he.out,Bool.and_assoc (okA && noN imps nm imps.length)]
          clear hA he;generalize insG code[i].op code[i].a code[i].alts=ig at*;rename World=>W5
          go_wp2_with (first|(go_at_call 52;refine(HFT.out).mono ?_;rintro e w6 ⟨rfl,hb6⟩))
          all_goals exact⟨⟨i+1,_,by omega,rfl,by go_num,HE.out _ (by simp_all),hbi.out.trans (hb6.mono (by have:=hbi.out.size;omega)),cell_keep hb6 g3,by have:=hb6.size;omega⟩,by simp[intOf];omega⟩
         ·have HF:Hid (V=(oki && globsFrom imps nm (globs.drop (k+1)))):=HS2.out _ (by rw[he.out,show i=code.length by omega]);go_wp2;exact⟨⟨k+1,nm,_,by omega,rfl,rfl,by go_num,HF,hb.out.trans (hbi.out.mono hbs),cell_keep hbi.out q1,cell_keep hbi.out q2,by omega⟩,by simp[intOf];omega⟩
    ·go_wp2;go_ret;exact⟨ret_bool (by rw[ha.out,List.drop_of_length_le (by omega)];simp[globsFrom]),hb.out⟩
end Go.Proofs.YtahmgjjgikgpoaaGreatDoor
