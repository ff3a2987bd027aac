import Derived.Test.YtcpcplaeaimmpaaGreatDoorPq3J
import Derived.Laws.OwnMore
import Derived.Deep.Upon
set_option maxRecDepth 100000
set_option maxHeartbeats 4000000
namespace Go.Proofs.YtcpcplaeaimmpaaGreatDoor
open Go.RowKit Go.Sort
abbrev BV:=Int×(Option Addr×Nat×Nat)×(TypeId×Value)
def bvN(b:BV):Value:=.slice b.2.1.1 b.2.1.2.1 b.2.1.2.2
def bvB(b:BV):Value:=.iface b.2.2.1 b.2.2.2
def BrAt(w:World)(v:Value)(bs:List BV):Prop:=∃p c,v=.slice p bs.length c∧(bs≠[]->∃g o,p=some ⟨g,o,none⟩∧∀i (hi:i<bs.length),w.cell? ⟨g,o+i*3,none⟩=some (.int .i64 bs[i].1)∧w.cell? ⟨g,o+i*3+1,none⟩=some (bvN bs[i])∧w.cell? ⟨g,o+i*3+2,none⟩=some (bvB bs[i]))
def caseL(a:TypeId×Value)(bs:List BV):List (Value×Value):=(.iface a.1 a.2,.slice none 0 0)::bs.map λb=>(bvB b,bvN b)
structure CPSt (a:TypeId×Value) (bs:List BV) (w wr:World) (C:Nat) (cv:Value) (k:Nat) (vp:Option Addr) (vc:Nat):Prop where
 row:RowP wr (w.heap.size+1) (.slice vp (k+1) vc) (caseL a (bs.take k))
 low:Below (w.heap.size+1) (w.alloc (.cells #[.iface a.1 a.2,cv] 316)) wr
theorem caseL_len(a:TypeId×Value)(bs:List BV):(caseL a bs).length=bs.length+1:=by unfold caseL;simp
theorem CPSt.next{a:TypeId×Value}{bs:List BV}{w wr X w2:World}{C:Nat}{cv:Value}{k:Nat}{vp:Option Addr}{vc:Nat}{ob:Obj}(h:CPSt a bs w wr C cv k vp vc)(hk:k<bs.length)(hX:Below wr.heap.size wr X)
 (hgr:(X.alloc ob).grownBy w2 (Value.slice vp (k+1) vc).ownBlock) {g c:Nat} (hat:(Value.slice vp (k+1) vc).ownBlock=some g∨g=(X.alloc ob).heap.size) (hlt:g<w2.heap.size)
 (hown:w2.ownsRow 0 186 2 (.slice (some ⟨g,0,none⟩) (k+1+1) c) (k+1+1) ((caseL a (bs.take k)).flatMap ptC2++[bvB bs[k],bvN bs[k]])):CPSt a bs w w2 C cv (k+1) (some ⟨g,0,none⟩) c:=by
 have hlo:w.heap.size+1<=wr.heap.size:=by have:=h.low.size;simpa using this
 have hl:(caseL a (bs.take k)).length=k+1:=by rw[caseL_len,List.length_take];omega
 have e:caseL a (bs.take (k+1))=caseL a (bs.take k)++[(bvB bs[k],bvN bs[k])]:=by
  unfold caseL;rw[List.take_succ_eq_append_getElem hk,List.map_append];rfl
 have hrow:=h.row.keep okP hX;refine⟨?_,below_push (h.low.trans (hX.mono hlo)) (Nat.le_trans hlo hX.size) (λb hb=>(hrow.rg b (List.mem_append_left _ (mem_vB.2 hb))).1) hgr⟩;rw[e];have:=hrow.pushN okP (Nat.le_trans hlo hX.size) trivial hgr hat hlt (x:=(bvB bs[k],bvN bs[k])) (c:=c) (by rw[hl];exact hown);rw[hl]at this;exact this
theorem partsCase_any(a:TypeId×Value)(bv:Value)(bs:List BV)(w:World)(h:BrAt w bv bs)(hl:bs.length<=100000):Calls Tryz.prog 338 #[.agg #[.iface a.1 a.2,bv]] w λe w'=>PaRes w (caseL a bs) e w':=by
 obtain⟨p,c,rfl,hc⟩:=id h;have HC:=hid hc;obtain⟨ii,hii,hij⟩:=Option.map_eq_some_iff.1 Tryz.partI;simp only[Prod.mk.injEq]at hij;obtain⟨hi0,hi1,hi2⟩:=hij;have HB:Hid (Calls Tryz.prog 337 #[.slice (some ⟨w.heap.size+1,0,none⟩) 1 1] ((w.alloc (.cells #[.iface a.1 a.2,.slice p bs.length c] 316)).alloc (.cells #[.iface a.1 a.2] 181)) λe w'=>PaRes (w.alloc (.cells #[.iface a.1 a.2,.slice p bs.length c] 316)) (bareL [a]) e w'):=by
  refine(bare_any [a] _ _ ⟨some ⟨w.heap.size+1,0,none⟩,1,rfl,λ_=>⟨w.heap.size+1,0,rfl,λi hi=>?_⟩⟩ (by simp)).mono λ_ _ hr=>PaRes.rebase hr ((Below.refl _ _).alloc (Nat.le_refl _) _);match i,hi with
  |0,_=>simp
  |i+1,hi=>simp only[List.length_cons,List.length_nil]at hi;omega
 clear hc h;go_enter Tryz.func338,Tryz.ntmps338;go_wp2_with (first
  |(go_at_call 337;refine HB.out.mono ?_;intro e w1 hr;have HR:=hid hr;obtain⟨vp,vc,rfl⟩:=hr.slice;have k1:=cell_keep hr.1 (show(w.alloc (.cells #[.iface a.1 a.2,.slice p bs.length c] 316)).cell? ⟨w.heap.size,1,none⟩=some (.slice p bs.length c) by simp);clear hr))
 have hbl:(bareL [a]).length=1:=rfl;have HR0:Hid (CPSt a bs w w1 w.heap.size (.slice p bs.length c) 0 vp vc):=by
  obtain⟨h1,v',h2,h3⟩:=HR.out;cases h2;refine⟨?_,?_⟩
  ·rw[List.take_zero];have:=h3;rw[show(w.alloc (.cells #[.iface a.1 a.2,.slice p bs.length c] 316)).heap.size=w.heap.size+1 by simp]at this;exact this
  ·rw[show(w.alloc (.cells #[.iface a.1 a.2,.slice p bs.length c] 316)).heap.size=w.heap.size+1 by simp]at h1;exact h1
 rw[hbl];clear hbl HR HB;go_loopw [3,13] (λlv kv wr=>∃(k:Nat) (vp:Option Addr) (vc:Nat),k<=bs.length∧lv=.slice vp (k+1) vc∧kv=.int .i64 (k:Int)∧Hid (CPSt a bs w wr w.heap.size (.slice p bs.length c) k vp vc)) (λ_ kv _=>bs.length-(intOf kv).toNat)
 case atStart=>exact⟨0,vp,vc,Nat.zero_le _,rfl,rfl,HR0.out⟩
 case round=>
  clear HR0 k1;obtain⟨k,vp,vc,hk,rfl,rfl,HS⟩:=hrel;rename World=>wr
  by_cases hlt:k<bs.length
  ·have h0:(0:Int)<=(k:Int):=by omega
   have h1:(k:Int)<(bs.length:Int):=by omega
   have hne:bs≠[]:=λe=>by rw[e]at hlt;simp at hlt
   obtain⟨g,o,rfl,hx⟩:=HC.out hne;have hbw:Below w.heap.size w wr:=((Below.refl w.heap.size w).alloc (Nat.le_refl _) _).trans (HS.out.low.mono (Nat.le_succ _));have c0:=cell_keep hbw (hx k hlt).1;have c1:=cell_keep hbw (hx k hlt).2.1;have c2:=cell_keep hbw (hx k hlt).2.2;have HK:=hid (λX w2 ob=>HS.out.next (X:=X) (w2:=w2) (ob:=ob) hlt);have hbl:(caseL a (bs.take k)).length=k+1:=by rw[caseL_len,List.length_take];omega
   have HOWN:Hid (wr.ownsRow 0 186 2 (.slice vp (k+1) vc) (k+1) ((caseL a (bs.take k)).flatMap ptC2)):=by
    have:=HS.out.row.own;rw[hbl]at this;exact this
   obtain⟨bt,⟨np,nn,nc⟩,et,ex,hek⟩:∃(t:Int) (n:Option Addr×Nat×Nat) (a b:_),bs[k]=(t,n,a,b):=⟨_,_,_,_,rfl⟩;rw[hek]at c0 c1 c2 HK;simp only[bvN,bvB]at c1 c2 HK;clear hx hek hbl;generalize (caseL a (bs.take k)).flatMap ptC2=XS at*;go_wp2_with (first
    |(at_builtin;refine wpList_append_lies _ rfl (.tmp 17) (.tmp 23) 299 rfl 0 186 ii _ 2 40 Tryz.underlying299 hii hi0 hi1 hi2 rfl (by omega) (.slice vp (k+1) vc) (k+1) XS rfl ((HOWN.out.alloc _).alloc _) ⟨wr.heap.size+1,0,none⟩ 1 1 [.iface et ex,.slice np nn nc] rfl rfl (by simpa using World.news_of_block (heap_alloc_new (wr.alloc (Obj.cells #[.int .i64 bt,.slice np nn nc,.iface et ex] 319)) (Obj.cells #[.iface et ex,.slice np nn nc] 186))) (by intro u hu;simp at hu;rcases hu with rfl|rfl<;>rfl) (by omega) (by unfold maxLen;omega) (by omega) (Nat.zero_le _) _ rfl ?_;intro g1 k1 w7 hown hgrow hat hlt1;have HNX:=hid (HK.out _ _ _ ((Below.refl _ _).alloc (Nat.le_refl _) _) hgrow hat hlt1 hown);clear hown hgrow hat hlt1))
   exact⟨⟨k+1,_,_,by omega,rfl,by go_num,HNX.out⟩,by simp[intOf];omega⟩
  ·obtain rfl:k=bs.length:=by omega
   have hge:¬(bs.length:Int)<(bs.length:Int):=by omega
   go_wp2;go_ret;have hrow:=HS.out.row;rw[List.take_length]at hrow;exact⟨((Below.refl w.heap.size w).alloc (Nat.le_refl _) _).trans (HS.out.low.mono (Nat.le_succ _)),_,rfl,hrow.low (Nat.le_succ _)⟩
def exV(e:TypeId×Value):Value:=.iface e.1 e.2
theorem ExAt.of_row{w:World}{g n c:Nat}{es:List (TypeId×Value)}(h:w.ownsRow 0 181 1 (.slice (some ⟨g,0,none⟩) n c) n (es.map exV))(hn:n=es.length):ExAt w (.slice (some ⟨g,0,none⟩) n c) es:=by
 subst hn;refine⟨_,c,rfl,λ_=>⟨g,0,rfl,λi hi=>?_⟩⟩;rw[Nat.zero_add,h.cellAt i (by omega),List.getElem?_map,List.getElem?_eq_getElem hi];rfl
theorem partsCall_any(f:TypeId×Value)(av:Value)(es:List (TypeId×Value))(w:World)(h:ExAt w av es)(hne:es≠[])(hl:es.length<=99999):Calls Tryz.prog 341 #[.agg #[.iface f.1 f.2,av]] w λe w'=>PaRes w (bareL (f::es)) e w':=by
 obtain⟨p,c,rfl,hc⟩:=h;obtain⟨G,o,rfl,hx⟩:=hc hne;obtain⟨xi,hxi,hxj⟩:=Option.map_eq_some_iff.1 Tryz.exprI;simp only[Prod.mk.injEq]at hxj;obtain⟨hx0,hx1,hx2⟩:=hxj;have hpos:0<es.length:=List.length_pos_iff.2 hne;obtain⟨o1,ho1⟩:∃ob,ob=Obj.cells #[.iface f.1 f.2,.slice (some ⟨G,o,none⟩) es.length c] 363:=⟨_,rfl⟩;have HB2:Hid (Below w.heap.size w ((w.alloc o1).alloc (.cells #[.iface f.1 f.2] 181))):=((Below.refl _ _).alloc (Nat.le_refl _) _).alloc (by simp) _;have HOWN:Hid (((w.alloc o1).alloc (.cells #[.iface f.1 f.2] 181)).ownsRow 0 181 1 (.slice (some ⟨w.heap.size+1,0,none⟩) 1 1) 1 [.iface f.1 f.2]):=by
  have:=World.ownsRow_lit (base:=0) (e:=181) (size:=1) (w.alloc o1) #[.iface f.1 f.2] 1 (Nat.zero_le _) (by unfold maxLen;omega) rfl;rw[show(w.alloc o1).heap.size=w.heap.size+1 by simp]at this;exact this
 have HNEW:Hid (∀j u,(es.map exV)[j]?=some u->((w.alloc o1).alloc (.cells #[.iface f.1 f.2] 181)).cell? ((⟨G,o,none⟩:Addr).add j)=some u):=by
  intro j u hj;have e:(⟨G,o,none⟩:Addr).add j=⟨G,o+j,none⟩:=by unfold Addr.add;split<;>simp_all
  rw[e];rw[List.getElem?_map]at hj;obtain⟨y,hy,rfl⟩:=Option.map_eq_some_iff.1 hj;obtain⟨hj2,rfl⟩:=List.getElem?_eq_some_iff.1 hy;exact cell_keep HB2.out (hx j hj2)
 have HONE:Hid (∀u∈es.map exV,u.oneCell'=true):=by
  intro u hu;obtain⟨y,-,rfl⟩:=List.mem_map.1 hu;rfl
 have HK:Hid (∀g k w3,w3.ownsRow 0 181 1 (.slice (some ⟨g,0,none⟩) (1+es.length) k) (1+es.length) ([.iface f.1 f.2]++es.map exV)->((w.alloc o1).alloc (.cells #[.iface f.1 f.2] 181)).grownBy w3 (Value.slice (some ⟨w.heap.size+1,0,none⟩) 1 1).ownBlock->
  Calls Tryz.prog 337 #[.slice (some ⟨g,0,none⟩) (1+es.length) k] w3 λe w'=>PaRes w (bareL (f::es)) e w'):=by
  intro g k w3 hr hg;have hb3:Below w.heap.size w w3:=HB2.out.grown hg (by simp;omega) (λb hb=>by simp[Value.ownBlock]at hb;omega);exact(bare_any (f::es) _ w3 (ExAt.of_row (es:=f::es) (n:=1+es.length) hr (Nat.add_comm _ _)) (by simp;omega)).mono λ_ _ hr=>PaRes.rebase hr hb3
 have hxl:(es.map exV).length=es.length*1:=by simp
 rw[ho1]at HB2 HOWN HNEW HK;clear hc hx hne;generalize es.map exV=XS at*;generalize es.length=n at*;go_enter Tryz.func341,Tryz.ntmps341;go_wp2_with (first
  |(at_builtin;refine wpList_append_lies _ rfl (.tmp 5) (.tmp 7) 310 rfl 0 181 xi _ 1 16 Tryz.underlying310 hxi hx0 hx1 hx2 rfl (by omega) (.slice (some ⟨w.heap.size+1,0,none⟩) 1 1) 1 [.iface f.1 f.2] rfl HOWN.out ⟨G,o,none⟩ n c XS rfl hxl HNEW.out HONE.out hpos (by unfold maxLen;omega) (by omega) (Nat.zero_le _) _ rfl ?_;intro g1 k1 w3 hown hgrow hat hlt1;have HC3:=hid (HK.out _ _ _ hown hgrow);clear hown hgrow hat hlt1)
  |(go_at_call 337;refine HC3.out.mono ?_;intro e w1 hr;have HR:=hid hr;obtain⟨v,rfl⟩:=hr.one;clear hr))
 go_ret;exact HR.out
def nilV:Value:=.slice none 0 0
def letN(r:Bool)(nv:Value):Value:=if r then nv else nilV
def letP(r:Bool)(nv:Value)(es:List (TypeId×Value))(k:Nat):List (Value×Value):=(es.take k).map (λe=>(exV e,letN r nv))++(es.drop k).map (λe=>(exV e,nilV))
def letL(r:Bool)(nv:Value)(es:List (TypeId×Value))(b:TypeId×Value):List (Value×Value):=es.map (λe=>(exV e,letN r nv))++[(exV b,nv)]
theorem letP_len(r:Bool)(nv:Value)(es:List (TypeId×Value))(k:Nat):(letP r nv es k).length=es.length:=by unfold letP;simp;omega
theorem letP_all(r:Bool)(nv:Value)(es:List (TypeId×Value)):letP r nv es es.length=es.map (λe=>(exV e,letN r nv)):=by unfold letP;simp
theorem ptC2_len(l:List (Value×Value)):(l.flatMap ptC2).length=l.length*2:=by
 induction l with
 |nil=>rfl
 |cons a l ih=>rw[List.flatMap_cons,List.length_append,ih];simp[ptC2];omega
theorem ptC2_get1(A B:List (Value×Value))(x:Value×Value):((A++x::B).flatMap ptC2)[A.length*2+1]?=some x.2:=by
 rw[List.flatMap_append,List.getElem?_append_right (by rw[ptC2_len];omega),ptC2_len,show A.length*2+1-A.length*2=1 by omega];rfl
theorem ptC2_set1(A B:List (Value×Value))(x:Value×Value)(u:Value):((A++x::B).flatMap ptC2).set (A.length*2+1) u=(A++(x.1,u)::B).flatMap ptC2:=by
 rw[List.flatMap_append,List.flatMap_append,List.set_append_right _ _ (by rw[ptC2_len];omega),ptC2_len,show A.length*2+1-A.length*2=1 by omega];rfl
theorem letP_split{nv:Value}{es:List (TypeId×Value)}{k:Nat}(r:Bool)(hk:k<es.length):∃A B:List (Value×Value),A.length=k∧letP r nv es k=A++(exV es[k],nilV)::B∧letP r nv es (k+1)=A++(exV es[k],letN r nv)::B:=by
 refine⟨(es.take k).map (λe=>(exV e,letN r nv)),(es.drop (k+1)).map (λe=>(exV e,nilV)),by simp;omega,?_,?_⟩
 ·unfold letP;rw[List.drop_eq_getElem_cons hk];rfl
 ·unfold letP;rw[List.take_succ_eq_append_getElem hk,List.map_append,List.append_assoc];rfl
structure LPSt (r:Bool) (nv:Value) (es:List (TypeId×Value)) (w0 wr:World) (k:Nat) (vp:Option Addr) (vc:Nat):Prop where
 row:RowP wr w0.heap.size (.slice vp es.length vc) (letP r nv es k)
 low:Below w0.heap.size w0 wr
section
variable {r:Bool} {nv:Value} {es:List (TypeId×Value)} {w0 wr:World} {k:Nat} {vp:Option Addr} {vc:Nat}
theorem LPSt.own(h:LPSt r nv es w0 wr k vp vc):wr.ownsRow 0 186 2 (.slice vp es.length vc) es.length ((letP r nv es k).flatMap ptC2):=by
 have:=h.row.own;rw[letP_len]at this;exact this
theorem LPSt.at_(h:LPSt r nv es w0 wr k vp vc)(hk:k<es.length):∃g,vp=some ⟨g,0,none⟩∧w0.heap.size<=g∧wr.cell? ⟨g,k*2+1,none⟩=some nilV∧wr.frozen? ⟨g,k*2+1,none⟩=false:=by
 obtain⟨g,cap,hv,-,-⟩:=h.own.form (by omega);simp only[Value.slice.injEq,true_and]at hv;obtain⟨rfl,rfl⟩:=hv;have hg:=h.row.rg g (List.mem_append_left _ (mem_vB.2 rfl));refine⟨g,rfl,hg.1,?_,h.own.frozenAt _⟩;obtain⟨A,B,hA,h1,-⟩:=letP_split (nv:=nv) r hk;rw[h.own.cellAt _ (by omega),h1];subst hA;exact ptC2_get1 _ _ _
theorem LPSt.no(h:LPSt false nv es w0 wr k vp vc)(hk:k<es.length):LPSt false nv es w0 wr (k+1) vp vc:=by
 refine⟨?_,h.low⟩;obtain⟨A,B,-,h1,h2⟩:=letP_split (nv:=nv) false hk;have:=h.row;rw[h1]at this;rw[h2];exact this
theorem LPSt.yes{g:Nat}(h:LPSt true nv es w0 wr k (some ⟨g,0,none⟩) vc)(hk:k<es.length):LPSt true nv es w0 (wr.setCell ⟨g,k*2+1,none⟩ nv) (k+1) (some ⟨g,0,none⟩) vc:=by
 obtain⟨A,B,hA,h1,h2⟩:=letP_split (nv:=nv) true hk;have hs:=h.own.stored (k*2+1) nv;have hrg:=h.row.rg;have hg0:=hrg g (List.mem_append_left _ (mem_vB.2 rfl));have hlo:=h.low.size;have he:((letP true nv es k).flatMap ptC2).set (k*2+1) nv=(letP true nv es (k+1)).flatMap ptC2:=by
  rw[h1,h2];subst hA;exact ptC2_set1 _ _ _ _
 rw[he]at hs;refine⟨⟨by rw[letP_len];exact hs.1,λ_ _=>trivial,?_,λb hb=>?_⟩,h.low.grown hs.2 hlo (λb hb=>by cases hb;exact hg0.1)⟩
 ·have e:∀l:List (Value×Value),l.flatMap (λ_=>([]:List Nat))=[]:=λl=>by simp
  unfold rowB;rw[e,List.append_nil];exact vB_nodup _
 ·have hb2:b=g:=by
   unfold rowB at hb;simpa[vB_slice]using hb
  subst hb2;exact⟨hg0.1,by simpa using hg0.2⟩
end
theorem RowP.add{w0 wr X w2:World}{l:List (Value×Value)}{vp:Option Addr}{vc n:Nat}{ob:Obj}{a b:Value}(h:RowP wr w0.heap.size (.slice vp n vc) l)(hl:l.length=n)(hlow:Below w0.heap.size w0 wr)(hX:Below wr.heap.size wr X)
 (hgr:(X.alloc ob).grownBy w2 (Value.slice vp n vc).ownBlock) {g c:Nat} (hat:(Value.slice vp n vc).ownBlock=some g∨g=(X.alloc ob).heap.size) (hlt:g<w2.heap.size)
 (hown:w2.ownsRow 0 186 2 (.slice (some ⟨g,0,none⟩) (n+1) c) (n+1) (l.flatMap ptC2++[a,b])):RowP w2 w0.heap.size (.slice (some ⟨g,0,none⟩) (n+1) c) (l++[(a,b)])∧Below w0.heap.size w0 w2:=by
 have hlo:=hlow.size;have hrow:=h.keep okP hX;refine⟨?_,below_push (hlow.trans (hX.mono hlo)) (Nat.le_trans hlo hX.size) (λb hb=>(hrow.rg b (List.mem_append_left _ (mem_vB.2 hb))).1) hgr⟩;subst hl;exact hrow.pushN okP (Nat.le_trans hlo hX.size) trivial hgr hat hlt (x:=(a,b)) (c:=c) hown
theorem partsLet_any(r:Bool)(np:Option Addr)(nn nc:Nat)(ev:Value)(es:List (TypeId×Value))(b:TypeId×Value)(w:World)(h:ExAt w ev es)(hl:es.length<=99999):Calls Tryz.prog 336 #[.agg #[.bool r,.slice np nn nc,ev,.iface b.1 b.2]] w λe w'=>PaRes w (letL r (.slice np nn nc) es b) e w':=by
 obtain⟨p,c,rfl,-⟩:=id h;obtain⟨ii,hii,hij⟩:=Option.map_eq_some_iff.1 Tryz.partI;simp only[Prod.mk.injEq]at hij;obtain⟨hi0,hi1,hi2⟩:=hij;obtain⟨o1,ho1⟩:∃ob,ob=Obj.cells #[.bool r,.slice np nn nc,.slice p es.length c,.iface b.1 b.2] 312:=⟨_,rfl⟩;have hb1:Below w.heap.size w (w.alloc o1):=(Below.refl _ _).alloc (Nat.le_refl _) _;have HB:=hid (bare_any es _ (w.alloc o1) (h.keep hb1) (by omega));have HV0:Hid (V4 (w.alloc o1) w.heap.size (.bool r) (.slice np nn nc) (.slice p es.length c) (.iface b.1 b.2)):=by
  subst ho1;exact⟨by simp,by simp,by simp,by simp,λj=>by simp⟩
 have HB1:=hid hb1;obtain⟨w1,hw1⟩:∃w1,w.alloc o1=w1:=⟨_,rfl⟩;have hz1:w1.heap.size=w.heap.size+1:=by rw[<-hw1];simp
 have HB':Hid (Calls Tryz.prog 337 #[.slice p es.length c] (w.alloc (.cells #[.bool r,.slice np nn nc,.slice p es.length c,.iface b.1 b.2] 312)) λe w2=>∃vp vc,e=.returned (.slice vp es.length vc)∧Hid (LPSt r (.slice np nn nc) es w1 w2 0 vp vc)):=by
  show Calls _ _ _ _ _;rw[<-ho1];refine HB.out.mono ?_;rintro e w2 ⟨hb2,v,rfl,hrow⟩;obtain⟨vp,vc,rfl⟩:=hrow.slice;have hbl:(bareL es).length=es.length:=by unfold bareL;simp
  rw[hbl]at hrow ⊢;rw[hw1]at hb2 hrow;exact⟨vp,vc,rfl,⟨hrow,hb2⟩⟩
 rw[hw1]at HV0 HB1;clear h hb1 HB ho1 hw1;go_enter Tryz.func336,Tryz.ntmps336;go_wp2_with (first
  |(go_at_call 337;refine HB'.out.mono ?_;rintro e w2 ⟨vp,vc,rfl,HR0⟩))
 have hbl:Value.slice np nn nc=.slice np nn nc:=rfl;clear HB' hbl;go_loopw [10] (λkv wr=>∃k:Nat,k<=es.length∧kv=.int .i64 (k:Int)∧Hid (LPSt r (.slice np nn nc) es w1 wr k vp vc)) (λkv _=>es.length-(intOf kv).toNat)
 case atStart=>exact⟨0,Nat.zero_le _,rfl,HR0.out⟩
 case round=>
  clear HR0;obtain⟨k,hk,rfl,HS⟩:=hrel;rename World=>wr
  obtain⟨v0,v1,v2,v3,-⟩:=HV0.out.keep HS.out.low;by_cases hlt:k<es.length
  ·have h0:(0:Int)<=(k:Int):=by omega
   have h1:(k:Int)<(es.length:Int):=by omega
   obtain⟨g,rfl,hg,cc,cf⟩:=HS.out.at_ hlt;cases r
   ·have HN:=hid (HS.out.no hlt);go_wp2;exact⟨⟨k+1,by omega,by go_num,HN.out⟩,by simp[intOf];omega⟩
   ·have HN:=hid (HS.out.yes hlt);go_wp2;exact⟨⟨k+1,by omega,by go_num,HN.out⟩,by simp[intOf];omega⟩
  ·obtain rfl:k=es.length:=by omega
   have hge:¬(es.length:Int)<(es.length:Int):=by omega
   have HOWN:=hid HS.out.own;have HRW:Hid (∀w3 g k,(wr.alloc (Obj.cells #[.iface b.1 b.2,.slice np nn nc] 186)).grownBy w3 (Value.slice vp es.length vc).ownBlock->((Value.slice vp es.length vc).ownBlock=some g∨g=(wr.alloc (Obj.cells #[.iface b.1 b.2,.slice np nn nc] 186)).heap.size)->g<w3.heap.size->w3.ownsRow 0 186 2 (.slice (some ⟨g,0,none⟩) (es.length+1) k) (es.length+1) ((letP r (.slice np nn nc) es es.length).flatMap ptC2++[.iface b.1 b.2,.slice np nn nc])->PaRes w (letL r (.slice np nn nc) es b) (.returned (.slice (some ⟨g,0,none⟩) (es.length+1) k)) w3):=by
    intro w3 g k hgr hat hlt hown;have:=RowP.add (w0:=w1) (X:=wr) HS.out.row (letP_len _ _ _ _) HS.out.low (Below.refl _ _) hgr hat hlt hown;rw[letP_all]at this;exact⟨HB1.out.trans (this.2.mono (by rw[hz1];omega)),_,rfl,this.1.low (by rw[hz1];omega)⟩
   generalize (letP r (.slice np nn nc) es es.length).flatMap ptC2=XS at*;go_wp2_with (first
    |(at_builtin;refine wpList_append_lies _ rfl (.tmp 22) (.tmp 28) 299 rfl 0 186 ii _ 2 40 Tryz.underlying299 hii hi0 hi1 hi2 rfl (by omega) (.slice vp es.length vc) es.length XS rfl (HOWN.out.alloc _) ⟨wr.heap.size,0,none⟩ 1 1 [.iface b.1 b.2,.slice np nn nc] rfl rfl (by simpa using World.news_of_block (heap_alloc_new wr (Obj.cells #[.iface b.1 b.2,.slice np nn nc] 186))) (by intro u hu;simp at hu;rcases hu with rfl|rfl<;>rfl) (by omega) (by unfold maxLen;omega) (by omega) (Nat.zero_le _) _ rfl ?_;intro g1 k1 w3 hown hgrow hat hlt1;have HPR:=hid (HRW.out w3 g1 k1 hgrow hat hlt1 hown);clear hown hgrow hat hlt1))
   go_ret;exact HPR.out
structure KnAt (w:World) (K:Nat) (v:Value) (l:Nms):Prop where
 nm:NmAt w v l
 cap:∃p c,v=.slice p l.length c∧l.length<=c∧(p=none->c=0)
 nk:v.ownBlock≠some K
theorem NmAt.blk{w:World}{v:Value}{l:Nms}(h:NmAt w v l){w':World}(hz:w.heap.size<=w'.heap.size)(e:∀b,v.ownBlock=some b->b<w.heap.size->w'.heap[b]?=w.heap[b]?):NmAt w' v l:=by
 obtain⟨p,c,rfl,hc⟩:=h;refine⟨p,c,rfl,λhl=>?_⟩;obtain⟨g,o,rfl,hg,hx⟩:=hc hl;have eb:=e g rfl hg;exact⟨g,o,rfl,Nat.lt_of_lt_of_le hg hz,λi hi=>⟨by rw[World.cell?_of_block (a:=⟨g,o+i*2,none⟩) eb];exact(hx i hi).1,by rw[World.cell?_of_block (a:=⟨g,o+i*2+1,none⟩) eb];exact(hx i hi).2⟩⟩
theorem KnAt.ef{w w':World}{K:Nat}{v:Value}{l:Nms}(h:KnAt w K v l)(hE:EF K w w'):KnAt w' K v l:=
 ⟨h.nm.blk hE.size λb hb hl=>hE.block b hl (λe=>h.nk (by rw[hb,e])),h.cap,h.nk⟩
theorem KnAt.keep{w w':World}{K:Nat}{v:Value}{l:Nms}(h:KnAt w K v l)(hb:Below w.heap.size w w'):KnAt w' K v l:=⟨h.nm.keep hb,h.cap,h.nk⟩
theorem KnAt.nil(w:World)(K:Nat):KnAt w K (.slice none 0 0) []:=⟨⟨none,0,rfl,λh=>absurd rfl h⟩,⟨none,0,rfl,Nat.le_refl _,λ_=>rfl⟩,λh=>by cases h⟩
theorem KnAt.of_row{w:World}{K lo:Nat}{v:Value}{l:Nms}(h:NmsO w lo v l)(hn:v.ownBlock≠some K):KnAt w K v l:=by
 refine⟨h.nm,?_,hn⟩;rcases h.own.2 with⟨rfl,h0⟩|⟨g,cap,cur,rfl,-,-,hc,-⟩
 ·exact⟨none,0,by rw[h0],by omega,λ_=>rfl⟩
 ·exact⟨_,cap,rfl,hc,λe=>by cases e⟩
theorem clip_any{w:World}{p:Option Addr}{n c:Nat}(hc:n<=c)(hp:p=none->c=0)(hn:n<=1000000):Calls Tryz.prog 115 #[.slice p n c] w λe w'=>e=.returned (.slice p n n)∧w'=w:=by
 have i1:(n:Int)<=(c:Int):=by omega
 have i0:(0:Int)<=(n:Int):=by omega
 have i2:¬((n:Int)<0):=by omega
 have i3:¬((c:Int)<(n:Int)):=by omega
 cases p with
 |none=>
  obtain rfl:=hp rfl;obtain rfl:n=0:=by omega
  go_enter Tryz.func115,Tryz.ntmps115;go_wp2;go_ret;exact⟨rfl,rfl⟩
 |some a=>
  go_enter Tryz.func115,Tryz.ntmps115;go_wp2;go_ret;exact⟨rfl,rfl⟩
theorem nm_cells{w:World}{g o:Nat}{l:Nms}(h:∀i (hi:i<l.length),w.cell? ⟨g,o+i*2,none⟩=some (.string l[i].1)∧w.cell? ⟨g,o+i*2+1,none⟩=some (.int .i64 (l[i].2:Int))):∀j u,(l.flatMap wC)[j]?=some u->w.cell? ((⟨g,o,none⟩:Addr).add j)=some u:=by
 intro j u hu;have hlen:(l.flatMap wC).length=l.length*2:=flat2_len _ _ l;have hj:j<l.length*2:=by
  rw[<-hlen];exact(List.getElem?_eq_some_iff.1 hu).1
 rw[Addr.add_lit];have hm:j / 2<l.length:=by omega
 have hc:=flat_wC l (j / 2) hm;rcases Nat.mod_two_eq_zero_or_one j with h0|h1
 ·have ej:j / 2*2=j:=by omega
  rw[ej]at hc;rw[hc.1]at hu;have:=(h (j / 2) hm).1;rw[ej]at this;rw[this];exact hu
 ·have ej:j / 2*2+1=j:=by omega
  rw[ej]at hc;rw[hc.2]at hu;have:=(h (j / 2) hm).2;rw[Nat.add_assoc,ej]at this;rw[this];exact hu
theorem wC_one(l:Nms):∀u∈l.flatMap wC,u.oneCell'=true:=by
 intro u hu;obtain⟨x,-,hx⟩:=List.mem_flatMap.1 hu;simp only[wC,List.mem_cons,List.not_mem_nil,or_false]at hx;rcases hx with rfl|rfl<;>rfl
theorem clip_append{w:World}{K:Nat}{kp:Option Addr}{known ns:Nms}{nv:Value}(hk:NmAt w (.slice kp known.length known.length) known)(hp:kp=none->known.length=0)(hkb:(Value.slice kp known.length known.length).ownBlock≠some K)(hK:K<w.heap.size)(hn:NmAt w nv ns)(hl:known.length+ns.length<=100000)(ty:TypeId):
 ∃v' w',(Builtin.append_ #[105,105] ty #[.slice kp known.length known.length,nv]).run Tryz.prog w=.ok v' w'∧Below w.heap.size w w'∧KnAt w' K v' (known++ns):=by
 obtain⟨ii,hii,hij⟩:=Option.map_eq_some_iff.1 Tryz.nameI;simp only[Prod.mk.injEq]at hij;obtain⟨hi0,hi1,hi2⟩:=hij;obtain⟨np,nc,rfl,hnc⟩:=hn;by_cases h0:ns=[]
 ·subst h0;refine⟨.slice kp known.length known.length,w,?_,Below.refl _ _,?_⟩
  ·refine run_append_nothing w _ _ ty 170 ii Tryz.underlying105 hii kp _ _ (Nat.le_refl _) _ ?_;cases np with
   |none=>exact Src.ofNil w Tryz.underlying105 nc
   |some a=>exact Src.ofSlice w Tryz.underlying105 a 0 nc [] (by simp) (λj u h=>by simp at h) (λu h=>by cases h)
  ·rw[List.append_nil];exact⟨hk,⟨kp,known.length,rfl,Nat.le_refl _,hp⟩,hkb⟩
 ·obtain⟨g,o,rfl,hg,hx⟩:=hnc h0;have hpos:0<ns.length:=List.length_pos_iff.2 h0;have hnl:(ns.flatMap wC).length=ns.length*2:=flat2_len _ _ ns;have hkl:(known.flatMap wC).length=known.length*2:=flat2_len _ _ known;have fin:∀v' w',w'.ownsRow w.heap.size 170 2 v' (known.length+ns.length) (known.flatMap wC++ns.flatMap wC)->w.grownBy w' none->Below w.heap.size w w'∧KnAt w' K v' (known++ns):=by
   intro v' w' hown hgr;have hrow:NmsO w' w.heap.size v' (known++ns):=by
    refine⟨?_,λ_ _=>trivial,?_,λb hb=>?_⟩
    ·rw[List.length_append,List.flatMap_append];exact⟨hown.1,by
      rcases hown.2 with⟨h1,h2⟩|⟨g',cap,cur,h1,h2,h3⟩
      ·exact Or.inl ⟨h1,h2⟩
      ·exact Or.inr ⟨g',cap,cur,h1,Nat.zero_le _,h3⟩⟩
    ·unfold rowB;rw[show((known++ns).flatMap λ_=>([]:List Nat))=[] by simp,List.append_nil];exact vB_nodup _
    ·unfold rowB at hb;rw[show((known++ns).flatMap λ_=>([]:List Nat))=[] by simp,List.append_nil]at hb;exact hown.lt b (mem_vB.1 hb)
   refine⟨(Below.refl _ _).grown hgr (Nat.le_refl _) (λb hb=>by cases hb),KnAt.of_row hrow λe=>?_⟩;have:=(hrow.rg K (List.mem_append_left _ (mem_vB.2 e))).1;omega
  have hb63:known.length+ns.length<=maxLen:=by unfold maxLen;omega
  cases kp with
  |some b=>
   have hkc:∀j u,(known.flatMap wC)[j]?=some u->w.cell? (b.add j)=some u:=by
    by_cases hk0:known=[]
    ·subst hk0;intro j u h;simp at h
    ·obtain⟨p',c',e1,hc'⟩:=hk;obtain⟨g',o',e2,-,hx'⟩:=hc' hk0;cases e1;cases e2;exact nm_cells hx'
   obtain⟨v',w',hrun,r1,r2⟩:=run_append_arg_grows (P:=Tryz.prog) w 105 ty 170 ii _ 2 24 Tryz.underlying105 hii hi0 hi1 hi2 rfl (by omega) b known.length known.length (known.flatMap wC) hkl hkc ⟨g,o,none⟩ ns.length nc (ns.flatMap wC) hnl (nm_cells hx) (by omega) hb63 (by omega);exact⟨v',w',hrun,fin v' w' r1 r2⟩
  |none=>
   have hz:=hp rfl;obtain rfl:known=[]:=List.eq_nil_of_length_eq_zero hz;obtain⟨v',w',hrun,r1,r2,_⟩:=run_append_own (P:=Tryz.prog) w w.heap.size 105 ty 170 ii _ 2 24 Tryz.underlying105 hii hi0 hi1 hi2 rfl (by omega) (.slice none 0 0) 0 [] (World.ownsRow_nil w _ _ _) ⟨g,o,none⟩ ns.length nc (ns.flatMap wC) hnl (nm_cells hx) (wC_one ns) (by simpa using hb63) (by simp at hl;omega) (Nat.le_refl _);exact⟨v',w',hrun,fin v' w' r1 r2⟩
theorem step_clip{ops:Array Oper}{o:Oper}{a:Act}{Kc:Act->World->Prop}{Q:Exit->Act->World->Prop}{E:Prop}{w:World}{K:Nat}{kp:Option Addr}{known ns:Nms}{nv:Value}(hgd:o.guard=none)(s x:Operand)(ho:o.op=.call {callee:=.builtin .append,args:=#[s,x],argTypes:=#[105,105]})
 (hs:a.eval s=.slice kp known.length known.length) (hx:a.eval x=nv) (hk:NmAt w (.slice kp known.length known.length) known) (hp:kp=none->known.length=0) (hkb:(Value.slice kp known.length known.length).ownBlock≠some K) (hK:K<w.heap.size) (hn:NmAt w nv ns) (hl:known.length+ns.length<=100000)
 (h:∀v' w',Below w.heap.size w w'->KnAt w' K v' (known++ns)->Kc (a.put o.dst v') w'):if Region.wanted o (yielded ops a.tmps)=true then Oper.wp Tryz.prog o a w Kc Q else E:=by
 have hw:Region.wanted o (yielded ops a.tmps)=true:=by simp[Region.wanted,hgd]
 rw[if_pos hw];obtain⟨v',w',hr,h1,h2⟩:=clip_append hk hp hkb hK hn hl o.type;unfold Oper.wp execOp;simp only[ho,resolve,invoke,builtin,Sem.run_bind,Sem.run_pure,Result.andThen_ok,List.map_toArray,List.map_cons,List.map_nil,hs,hx,hr];exact h v' w' h1 h2
end Go.Proofs.YtcpcplaeaimmpaaGreatDoor
