import Derived.Test.YtdpodpjdcfjfgaaGreatDoorArgLJ
import Derived.Maps.OwnSet
import Derived.Maps.Views
import Derived.Test.YtdpodpjdcfjfgaaGreatDoorKindJ
set_option maxHeartbeats 8000000
namespace Go.Proofs.YtdpodpjdcfjfgaaGreatDoor
open Go.RowKit Go.Sort
def xmR:Value->Option (DataW Unit×List MemPlace)
 |.agg cs=>match cs.toList with
  |[.int .i64 a,.int .i64 b]=>some (.agg [.lit (.int .i64 a),.lit (.int .i64 b)],[])
  |_=>none
 |_=>none
theorem xmR_inv{v:Value}{a b:Int}{ps:List MemPlace}(h:xmR v=some (.agg [.lit (.int .i64 a),.lit (.int .i64 b)],ps)):v=.agg #[.int .i64 a,.int .i64 b]:=by
 unfold xmR at h;split at h
 ·split at h
  ·rename_i cs x y e
   simp at h;obtain⟨⟨rfl,rfl⟩,-⟩:=h;congr 1
   exact Array.toList_inj.1 e
  ·cases h
 ·cases h
def xmP:Option (Nat×Int)->Int×Int
 |some (n,a)=>((n:Int),a)
 |none=>(0,0)
def xmV(o:Option (Nat×Int)):Value:=.agg #[.int .i64 (xmP o).1,.int .i64 (xmP o).2]
def xmD(o:Option (Nat×Int)):DataW Unit:=.agg [.lit (.int .i64 (xmP o).1),.lit (.int .i64 (xmP o).2)]
def keyL(t:ByteArray):Lit:=.string t.data.toList
theorem keyL_inj{s t:ByteArray}(h:keyL s=keyL t):s=t:=Go.WideShapes.bytes_inj (by simpa[keyL]using h)
def XM(w:World)(b n:Nat)(f:ByteArray->Option (Nat×Int)):Prop:=∃D,w.ownsMap Tryz.prog 9 xmR b n D∧∀t:ByteArray,Maps.has D (keyL t)=(f t).isSome∧D.atKey (keyL t) (xmD none)=xmD (f t)
theorem Tryz.mapT:Tryz.prog.underlying 227=some (.map 9 232):=by kernel_rfl
theorem Tryz.zeroX(w:World):(zeroValue 232).run Tryz.prog w=.ok (xmV none) w:=by kernel_rfl
theorem XM.new(w:World):XM (w.alloc (.map #[] 0)) w.heap.size 0 λ_=>none:=⟨_,World.ownsMap_made w _ _ _,λ_=>⟨rfl,rfl⟩⟩
theorem XM.keep{w w':World}{b n:Nat}{f:ByteArray->Option (Nat×Int)}(h:XM w b n f)(hb:Below w.heap.size w w'):XM w' b n f:=by
 obtain⟨D,hD,hf⟩:=h;have hl:=hD.lt;obtain⟨es,clock,e,r⟩:=hD;exact⟨D,⟨es,clock,by rw[hb.block b hl];exact e,r⟩,hf⟩
theorem XM.congr{w:World}{b n:Nat}{f g:ByteArray->Option (Nat×Int)}(h:XM w b n f)(e:∀t,f t=g t):XM w b n g:=by
 obtain⟨D,hD,hf⟩:=h;exact⟨D,hD,λt=>by rw[<-e];exact hf t⟩
theorem XM.look{w:World}{b n:Nat}{f:ByteArray->Option (Nat×Int)}(h:XM w b n f)(t:ByteArray)(ht:t.size<=maxLen):(Instr.lookup 227 (.map (some b)) (.string t) true).run Tryz.prog w=.ok (.tuple #[xmV (f t),.bool (f t).isSome]) w:=by
 obtain⟨D,hD,hf⟩:=h;obtain⟨v,ps,hrun,hv⟩:=hD.look_ok (Maps.string_keyed Tryz.underlying9) Tryz.mapT (Tryz.zeroX w) (zd:=xmD none) (zp:=[]) rfl (Go.WideMaps.keyOf_string_mk Tryz.underlying9 ht);rw[hrun];have:=hf t;unfold keyL at this;rw[this.1,xmR_inv (hv.trans (by rw[this.2];rfl))];rfl
theorem XM.look1{w:World}{b n:Nat}{f:ByteArray->Option (Nat×Int)}(h:XM w b n f)(t:ByteArray)(ht:t.size<=maxLen):(Instr.lookup 227 (.map (some b)) (.string t) false).run Tryz.prog w=.ok (xmV (f t)) w:=by
 obtain⟨D,hD,hf⟩:=h;obtain⟨v,ps,hrun,hv⟩:=hD.lookup (Maps.string_keyed Tryz.underlying9) Tryz.mapT (Tryz.zeroX w) (zd:=xmD none) (zp:=[]) rfl (Go.WideMaps.keyOf_string_mk Tryz.underlying9 ht);rw[hrun];have:=hf t;unfold keyL at this;rw[xmR_inv (hv.trans (by rw[this.2];rfl))];rfl
def exK(Os:List LObj)(k:Nat)(t:ByteArray):Option (Nat×Int):=(exO t (Os.take k) 0 0).map λx=>(x.1,x.2.2)
def exKJ(Os:List LObj)(k:Nat)(gl:List LGlob)(j:Nat)(t:ByteArray):Option (Nat×Int):=match exK Os k t with
 |some x=>some x
 |none=>exG t (gl.take j) (gBase Os k)
theorem exG_app(t:ByteArray):∀(A B:List LGlob) (n:Nat),exG t (A++B) n=match exG t A n with|some x=>some x|none=>exG t B (n+A.length)
 |[],B,n=>rfl
 |g::A,B,n=>by
  rw[List.cons_append,exG,exG];split
  ·rfl
  ·rw[exG_app t A B,List.length_cons,show n+1+A.length=n+(A.length+1) by omega]
theorem exO_app(t:ByteArray):∀(A B:List LObj) (k n:Nat),exO t (A++B) k n=match exO t A k n with|some x=>some x|none=>exO t B (k+A.length) (n+(A.map λO=>O.globs.length).sum)
 |[],B,k,n=>rfl
 |O::A,B,k,n=>by
  rw[List.cons_append,exO,exO];split
  ·rfl
  ·rw[exO_app t A B,List.length_cons,List.map_cons,List.sum_cons,show k+1+A.length=k+(A.length+1) by omega,Nat.add_assoc]
theorem exKJ_succ{Os:List LObj}{k:Nat}{gl:List LGlob}{j:Nat}(t:ByteArray)(hj:j<gl.length):exKJ Os k gl (j+1) t=match exKJ Os k gl j t with|some x=>some x|none=>if gl[j].exp && decide (gl[j].name=t) then some (gBase Os k+j,gl[j].arity) else none:=by
 unfold exKJ;cases exK Os k t with
 |some x=>rfl
 |none=>
  simp only;rw[List.take_succ_eq_append_getElem hj,exG_app,List.length_take,Nat.min_eq_left (by omega)];cases exG t (gl.take j) (gBase Os k) with
  |some x=>rfl
  |none=>simp only[exG]
theorem exKJ_end{Os:List LObj}{k:Nat}(hk:k<Os.length)(t:ByteArray):exKJ Os k Os[k].globs Os[k].globs.length t=exK Os (k+1) t:=by
 unfold exKJ;rw[List.take_length];have e:exK Os (k+1) t=(exO t (Os.take k++[Os[k]]) 0 0).map λx=>(x.1,x.2.2):=by unfold exK;rw[List.take_succ_eq_append_getElem hk]
 rw[e,exO_app];unfold exK;cases exO t (Os.take k) 0 0 with
 |some x=>rfl
 |none=>
  simp only[Option.map_none,exO,Nat.zero_add];unfold gBase;cases exG t Os[k].globs ((Os.take k).map λO=>O.globs.length).sum with
  |some x=>rfl
  |none=>rfl
theorem exK_all(Os:List LObj)(t:ByteArray):exK Os Os.length t=(expo Os t).map λx=>(x.1,x.2.2):=by unfold exK expo;rw[List.take_length]
def dpJ(Os:List LObj)(k:Nat)(gl:List LGlob)(j:Nat)(g:LGlob):Bool:=g.exp && (exKJ Os k gl j g.name).isSome
def dpB(Os:List LObj)(k:Nat)(O:LObj):Bool:=(fstF (dpJ Os k O.globs) O.globs 0).isSome
end Go.Proofs.YtdpodpjdcfjfgaaGreatDoor
namespace Go.Proofs.YtdpodpjdcfjfgaaGreatDoor
open Go.RowKit
theorem In_any(t:TypeId)(x:Value)(k n:Int)(w:World):
 Calls Tryz.prog 129 #[.iface t x,.int .i64 k,.int .i64 n] w λe w'=>e=.returned (.iface 195 (.agg #[.iface t x,.int .i64 k,.int .i64 n]))∧Below w.heap.size w w':=by
 go_enter Tryz.func129,Tryz.ntmps129;go_wp2;go_ret;exact⟨rfl,Below.refl _ _⟩
theorem place_nil(w:World):Calls Tryz.prog 46 #[.nilIface] w λe w'=>e=.returned (.agg #[.int .i64 0,.int .i64 0])∧Below w.heap.size w w':=by
 go_enter Tryz.func46,Tryz.ntmps46;go_wp2_with (first|(go_at_call 81;refine(as_nil _ _).mono ?_;rintro e w1 ⟨rfl,rfl⟩))
 refine bodyPost_ret (v:=.agg #[.int .i64 0,.int .i64 0]) (by simp[results,Tryz.results46,go_sem]) rfl ?_;exact⟨rfl,((Below.refl _ _).alloc (Nat.le_refl _) _).alloc (by simp) _⟩
theorem place_plain{w:World}{adr:Nat->Addr}(hS:SentAt w adr)(a:Addr):Calls Tryz.prog 46 #[errE a] w λe w'=>e=.returned (.agg #[.int .i64 0,.int .i64 0])∧Below w.heap.size w w':=by
 have HB0:Hid (∀o1 o2,Below w.heap.size w ((w.alloc o1).alloc o2)):=λo1 o2=>((Below.refl _ _).alloc (Nat.le_refl _) _).alloc (by simp) _;have HP0:Hid (∀o2,P2 ((w.alloc (.cells #[.int .i64 0,.int .i64 0] 36)).alloc o2) w.heap.size):=λo2=>⟨by simp,by simp,by simp,by simp⟩;have HE:Hid (w.cell? ⟨18,0,none⟩=some (.iface 366 (.agg #[.pointer (some ⟨27,103,none⟩)]))):=hS.et;clear hS;unfold errE;go_enter Tryz.func46,Tryz.ntmps46;go_wp2_with (first|(go_at_call 81;refine(as_miss a _ _ (cell_keep (HB0.out _ _) HE.out)).mono ?_;rintro e w1 ⟨rfl,hb1⟩;have hp:=(HP0.out _).keep hb1;obtain⟨p0,p1,p2,p3⟩:=id hp;have HP1:Hid (P2 w1 w.heap.size):=hp;have HB1:Hid (Below w.heap.size w w1):=(HB0.out _ _).trans (hb1.mono (by simp;omega));clear hp))
 obtain⟨s0,s1⟩:=HP1.out.put (.int .i64 0) (.int .i64 0);refine bodyPost_ret (v:=.agg #[.int .i64 0,.int .i64 0]) (by simp[results,Tryz.results46,go_sem,s0,s1]) rfl ?_;exact⟨rfl,(HB1.out.setCell (by simp) _).setCell (by simp) _⟩
structure Hit (w w':World) (tb:Nat) (k n:Int):Prop where
 c1:w'.cell? ⟨tb,1,none⟩=some (.int .i64 k)
 c2:w'.cell? ⟨tb,2,none⟩=some (.int .i64 n)
 old:∀b o,b<w.heap.size->b≠tb->w'.cell? ⟨b,o,none⟩=w.cell? ⟨b,o,none⟩∧w'.frozen? ⟨b,o,none⟩=w.frozen? ⟨b,o,none⟩
 below:∀B,B<=tb->B<=w.heap.size->Below B w w'
theorem as_found(x:Value)(k n:Int)(tb:Nat)(o0 o1 o2:Value)(w:World)(hg:w.cell? ⟨18,0,none⟩=some (.iface 366 (.agg #[.pointer (some ⟨27,103,none⟩)])))
 (t0:w.cell? ⟨tb,0,none⟩=some o0) (t1:w.cell? ⟨tb,1,none⟩=some o1) (t2:w.cell? ⟨tb,2,none⟩=some o2) (f0:w.frozen? ⟨tb,0,none⟩=false) (f1:w.frozen? ⟨tb,1,none⟩=false) (f2:w.frozen? ⟨tb,2,none⟩=false) (ox:x.oneCell'=true):
 Calls Tryz.prog 81 #[.iface 195 (.agg #[x,.int .i64 k,.int .i64 n]),.iface 197 (.pointer (some ⟨tb,0,none⟩))] w λev w'=>ev=.returned (.bool true)∧Hit w w' tb k n:=by
 refine(as_hit x k n tb o0 o1 o2 w hg t0 t1 t2 f0 f1 f2 ox).mono ?_;rintro e w' ⟨rfl,rfl⟩;refine⟨rfl,?_⟩;have hb3:Below w.heap.size w (asW w ⟨tb,0,none⟩):=(((Below.refl _ _).alloc (Nat.le_refl _) _).alloc (by simp) _).alloc (by simp;omega) _;have hb4:Below w.heap.size w ((asW w ⟨tb,0,none⟩).alloc (.cells #[x,.int .i64 k,.int .i64 n] 195)):=hb3.alloc hb3.size _;generalize (asW w ⟨tb,0,none⟩).alloc (.cells #[x,.int .i64 k,.int .i64 n] 195)=W at*;have ne:∀{b o c:Nat},o≠c->(⟨b,o,none⟩:Addr)≠⟨b,c,none⟩:=λh e=>h (congrArg Addr.off e);have nb:∀{b o c:Nat},b≠tb->(⟨tb,c,none⟩:Addr)≠⟨b,o,none⟩:=λh e=>h (congrArg Addr.block e).symm;refine⟨?_,?_,λb o hb hne=>⟨?_,?_⟩,λB h1 h2=>?_⟩
 ·rw[World.cell?_setCell_other _ _ _ _ (ne (by decide))];exact World.cell?_setCell_same _ _ _ (u:=o1) (by rw[World.cell?_setCell_other _ _ _ _ (ne (by decide))];exact cell_keep hb4 t1)
 ·exact World.cell?_setCell_same _ _ _ (u:=o2) (by rw[World.cell?_setCell_other _ _ _ _ (ne (by decide)),World.cell?_setCell_other _ _ _ _ (ne (by decide))];exact cell_keep hb4 t2)
 ·rw[World.cell?_setCell_other _ _ _ _ (nb hne),World.cell?_setCell_other _ _ _ _ (nb hne),World.cell?_setCell_other _ _ _ _ (nb hne)];exact(bcell hb4).1 b o hb
 ·simp only[World.frozen?_setCell];exact(bcell hb4).2 b o hb
 ·exact(((hb4.mono h2).setCell (p:=⟨tb,0,none⟩) h1 _).setCell (p:=⟨tb,1,none⟩) h1 _).setCell (p:=⟨tb,2,none⟩) h1 _
theorem place_fault{w:World}{adr:Nat->Addr}(hS:SentAt w adr)(a:Addr)(k n:Int):Calls Tryz.prog 46 #[errF a k n] w λe w'=>e=.returned (.agg #[.int .i64 k,.int .i64 n])∧Below w.heap.size w w':=by
 have HB0:Hid (∀o1 o2,Below w.heap.size w ((w.alloc o1).alloc o2)):=λo1 o2=>((Below.refl _ _).alloc (Nat.le_refl _) _).alloc (by simp) _;have HP0:Hid (∀o2,P2 ((w.alloc (.cells #[.int .i64 0,.int .i64 0] 36)).alloc o2) w.heap.size):=λo2=>⟨by simp,by simp,by simp,by simp⟩;have HE:Hid (w.cell? ⟨18,0,none⟩=some (.iface 366 (.agg #[.pointer (some ⟨27,103,none⟩)]))):=hS.et;clear hS;unfold errF;go_enter Tryz.func46,Tryz.ntmps46;go_wp2_with (first|(go_at_call 81;refine(as_found _ k n _ .nilIface (.int .i64 0) (.int .i64 0) _ (cell_keep (HB0.out _ _) HE.out) (by simp) (by simp) (by simp) (by simp) (by simp) (by simp) rfl).mono ?_;rintro e w1 ⟨rfl,hh⟩;have c1:=hh.c1;have c2:=hh.c2;have hp:P2 w1 w.heap.size:=⟨by rw[(hh.old _ 0 (by simp;omega) (by omega)).1];exact(HP0.out _).1,by rw[(hh.old _ 1 (by simp;omega) (by omega)).1];exact(HP0.out _).2.1,by rw[(hh.old _ 0 (by simp;omega) (by omega)).2];exact(HP0.out _).2.2.1,by rw[(hh.old _ 1 (by simp;omega) (by omega)).2];exact(HP0.out _).2.2.2⟩;obtain⟨p0,p1,p2,p3⟩:=id hp;have HP1:Hid (P2 w1 w.heap.size):=hp;have HB1:Hid (Below w.heap.size w w1):=(HB0.out _ _).trans (hh.below _ (by omega) (by simp;omega));clear hp hh))
 obtain⟨s0,s1⟩:=HP1.out.put (.int .i64 k) (.int .i64 n);refine bodyPost_ret (v:=.agg #[.int .i64 k,.int .i64 n]) (by simp[results,Tryz.results46,go_sem,s0,s1]) rfl ?_;exact⟨rfl,(HB1.out.setCell (by simp) _).setCell (by simp) _⟩
theorem hid2{p:Prop}(h:p):Hid p:=h
theorem nodup_le:∀(n:Nat) (l:List Nat),l.Nodup->(∀x∈l,x<n)->l.length<=n
 |0,l,_,h=>by
  cases l with
  |nil=>simp
  |cons a r=>exact absurd (h a (by simp)) (by omega)
 |n+1,l,hd,h=>by
  have h1:(l.erase n).Nodup:=hd.erase n;have h2:∀x∈l.erase n,x<n:=λx hx=>by
   have h3:=List.mem_of_mem_erase hx;have h4:x≠n:=λe=>by subst e;exact(List.Nodup.not_mem_erase hd) hx
   have:=h x h3;omega
  have h5:=nodup_le n (l.erase n) h1 h2;by_cases hm:n∈l
  ·have:=List.length_erase_of_mem hm;omega
  ·rw[List.erase_of_not_mem hm]at h5;omega
theorem altsB_len(l:List LAlt)(h:altsB l=true):l.length<=256:=by
 obtain⟨h1,h2⟩:=(altsB_iff l).1 h;have hr:∀j (hj:j<l.length),0<=l[j].tag∧l[j].tag<=255:=λj hj=>by
  have:=h1 j hj hj;simp only[altOk,Bool.and_eq_true,decide_eq_true_eq]at this;omega
 have:=nodup_le 256 (l.map λa=>a.tag.toNat) ?_ ?_
 ·simpa using this
 ·rw[List.nodup_iff_pairwise_ne,List.pairwise_iff_getElem];intro i j hi hj hij;simp only[List.length_map]at hi hj;have a1:=h2 i j hi hj hij hj;have a2:=hr i hi;have a3:=hr j hj;simp only[List.getElem_map];omega
 ·intro x hx;obtain⟨a,ha,rfl⟩:=List.mem_map.1 hx;obtain⟨i,hi,rfl⟩:=List.mem_iff_getElem.1 ha;have:=hr i hi;omega
theorem altsGood_eq(l:List LAlt):altsGood l=(altsB l && decide (0<l.length)):=by
 unfold altsGood;cases h:altsB l with
 |true=>simp[altsB_len l h]
 |false=>simp
theorem insG_row(k:Nat)(hk:k<21)(a:Int)(alts:List LAlt):insG k a alts=
 if rowN k 0=1 then (alts.length:Int)==0 else if rowN k 0=2 then ((alts.length:Int)==0) && decide (rowN k 1<=a) && decide (a<=rowN k 2) else if rowN k 0=3 then (a==0) && altsGood alts else (a==0) && ((alts.length:Int)==0):=by
 simp only[insG];rw[if_pos (by omega)];rfl
theorem refFits_case(a:Int)(alts:List LAlt)(av:Value)(w:World)(hA:AltsAt w av alts)(ha:a=0):
 Calls Tryz.prog 165 #[.agg #[.int .i64 17,.int .i64 a,av]] w λe w'=>e=.returned (.bool (altsGood alts))∧Below w.heap.size w w':=by
 subst ha;obtain⟨p,cap,rfl,hs1,hcell⟩:=hA.open;have HC:Hid (∀w',Below w.heap.size w w'->AltsIn w' p alts):=hcell;have HB:Hid (∀w,Calls Tryz.prog 139 #[.int .i64 17] w λe w'=>e=.returned (.tuple #[.int .i64 1,.int .i64 0])∧w'=w):=λw=>refBounds_any 17 (by omega) w;have HG:=hid2 (altsGood_eq alts);clear hcell hA;go_enter Tryz.func165,Tryz.ntmps165;go_wp2_with (first|(go_at_call 139;refine(HB.out _).mono ?_;rintro e w1 ⟨rfl,rfl⟩))
 go_loopw [5] (λi wr=>∃k:Nat,k<=alts.length∧i=.int .i64 k∧Hid (altsUpto alts k)∧wr.cell? ⟨w.heap.size,0,none⟩=some (.int .i64 17)∧wr.cell? ⟨w.heap.size,2,none⟩=some (.slice p alts.length cap)∧Below w.heap.size w wr∧w.heap.size<wr.heap.size) (λi _=>alts.length-(intOf i).toNat)
 case atStart=>exact⟨0,Nat.zero_le _,rfl,altsUpto_zero _,by simp,by simp,(Below.refl _ _).alloc (Nat.le_refl _) _,by simp⟩
 case round=>
  obtain⟨k,hk,rfl,ha,q0,q2,hb,hz⟩:=hrel;by_cases hlt:k<alts.length
  ·obtain⟨b,o,rfl,c0,c1⟩:=HC.out _ hb k hlt;have HTG:=hid2 (Eq.refl alts[k].tag);by_cases hok:altOk alts[k]=true
   ·have hok2:0<=alts[k].tag∧alts[k].tag<=255∧0<=alts[k].to∧alts[k].to<=65535:=by
     simp only[altOk,Bool.and_eq_true,decide_eq_true_eq]at hok;omega
    obtain⟨k1,k2,k3,k4⟩:=hok2;have HOK:Hid (altOk alts[k]=true):=hok;have hbs:Nat.ble 0 0=true:=rfl;clear hok hbs;generalize htg:alts[k].tag=tg at*;have HT:Hid (alts[k].tag=tg):=htg;clear htg HTG;generalize alts[k].to=tto at*;have t1:decide (tg<0)=false:=by simp;omega
    have t2:decide (255<tg)=false:=by simp;omega
    have t3:decide (tto<0)=false:=by simp;omega
    have t4:decide (65535<tto)=false:=by simp;omega
    rename World=>W0
    go_wp2;go_loopw [7] (λs wx=>∃j:Nat,j<=k∧s=.int .i64 j∧Hid (∀i (hi:i<alts.length),i<j->alts[i].tag≠alts[k].tag)∧wx.cell? ⟨W0.heap.size,0,none⟩=some (.int .i64 tg)∧wx.cell? ⟨w.heap.size,0,none⟩=some (.int .i64 17)∧wx.cell? ⟨w.heap.size,2,none⟩=some (.slice (some ⟨b,o,none⟩) alts.length cap)∧Below w.heap.size w wx∧w.heap.size<wx.heap.size) (λs _=>k-(intOf s).toNat)
    case atStart=>exact⟨0,Nat.zero_le _,rfl,λ_ _ h=>absurd h (by omega),by simp,by rw[World.cell?_alloc_lt _ _ _ hz];exact q0,by rw[World.cell?_alloc_lt _ _ _ hz];exact q2,hb.alloc hb.size _,by simp;omega⟩
    case round=>
     obtain⟨j,hj,rfl,hd,y1,y2,y3,hbx,hzx⟩:=hrel;clear q0 q2 c0 c1 t1 t2 t3 t4 hb hz;by_cases hjl:j<k
     ·obtain⟨b',o',e,x0,x1⟩:=HC.out _ hbx j (by omega);obtain⟨rfl,rfl⟩:b=b'∧o=o':=by simpa using e
      have hj1:(0:Int)<=(j:Int):=by omega
      have hj2:(j:Int)<(alts.length:Int):=by omega
      have HTW:Hid (alts[j].tag=tg->altsB alts=false):=λh=>altsB_twice alts k hlt ⟨j,by omega,hjl,by rw[HT.out];exact h⟩;have HND:Hid (alts[j].tag≠tg->∀i (hi:i<alts.length),i<j+1->alts[i].tag≠alts[k].tag):=by
       intro h i hi hij;by_cases e:i=j
       ·subst e;rw[HT.out];exact h
       ·exact hd.out i hi (by omega)
      clear e x1;generalize alts[j].tag=tj at*;go_wp2;go_quiet (fail);go_wp2;any_goals
       go_ret;exact⟨ret_bool (by rw[HG.out,HTW.out (by simp_all)];rfl),below_drewN hbx _⟩
      all_goals exact⟨⟨j+1,by omega,by go_num,HND.out (by simp_all),y1,y2,y3,below_drewN hbx _,hzx⟩,by simp[intOf];omega⟩
     ·go_wp2;exact⟨⟨k+1,by omega,by go_num,altsUpto_next alts k hlt ha.out HOK.out (λi hi hik=>hd.out i hi (by omega)),y2,y3,hbx,hzx⟩,by simp[intOf];omega⟩
   ·have hok2:alts[k].tag<0∨255<alts[k].tag∨alts[k].to<0∨65535<alts[k].to:=by
     have:altOk alts[k]=false:=by simpa using hok
     simp only[altOk,Bool.and_eq_false_iff,decide_eq_false_iff_not]at this;omega
    have HBad:Hid (altsB alts=false):=altsB_bad alts k hlt (by simpa using hok);clear hok HTG;generalize alts[k].tag=tg at*;generalize alts[k].to=tto at*;go_wp2;all_goals
     go_ret;exact⟨ret_bool (by rw[HG.out,HBad.out];rfl),hb.alloc hb.size _⟩
  ·have HE:Hid (altsB alts=true):=(altsB_iff alts).2 (by have:=ha.out;rw[show k=alts.length by omega]at this;exact this);go_wp2;go_ret;refine⟨ret_bool ?_,hb⟩;rw[HG.out,HE.out,Bool.true_and]
theorem bd_facts(k:Nat)(hk:k<21)(h17:k≠17):
 (rowN k 0=2∧(if k=7 then (1:Int) else if rowN k 0=2 then 0 else 1)=rowN k 1∧(if rowN k 0=2 then rowN k 2 else 0)=rowN k 2∧rowN k 1<=rowN k 2∧k≠0)∨k=0∨
 (rowN k 0=0∧(if k=7 then (1:Int) else if rowN k 0=2 then 0 else 1)=1∧(if rowN k 0=2 then rowN k 2 else 0)=0∧k≠0):=by
 rcases all21 k hk with rfl|rfl|rfl|rfl|rfl|rfl|rfl|rfl|rfl|rfl|rfl|rfl|rfl|rfl|rfl|rfl|rfl|rfl|rfl|rfl|rfl;all_goals first|(exact absurd rfl h17)|decide
theorem refFits_any(op a:Int)(alts:List LAlt)(av:Value)(w:World)(hA:AltsAt w av alts):
 Calls Tryz.prog 165 #[.agg #[.int .i64 op,.int .i64 a,av]] w λe w'=>e=.returned (.bool (insG op a alts))∧Below w.heap.size w w':=by
 obtain⟨p,cap,rfl,hs1,-⟩:=hA.open;by_cases ho:0<=op∧op<21
 ·obtain⟨k,rfl⟩:=Int.eq_ofNat_of_zero_le ho.1;have hk:k<21:=by omega
  have hR:=insG_row k hk a alts;by_cases h17:k=17
  ·subst h17;have e0:rowN 17 0=3:=rfl;rw[e0]at hR;by_cases ha:a=0
   ·have:insG ((17:Nat):Int) a alts=altsGood alts:=by rw[hR];simp[ha]
    rw[this];exact refFits_case a alts _ w hA ha
   ·have HF:Hid (insG ((17:Nat):Int) a alts=false):=by show _=_;rw[hR];simp[ha]
    have hb:(a !=0)=true:=by simp[ha]
    have HB:Hid (∀w,Calls Tryz.prog 139 #[.int .i64 17] w λe w'=>e=.returned (.tuple #[.int .i64 1,.int .i64 0])∧w'=w):=λw=>refBounds_any 17 (by omega) w;clear hR hA ho;go_enter Tryz.func165,Tryz.ntmps165;go_wp2_with (first|(go_at_call 139;refine(HB.out _).mono ?_;rintro e w1 ⟨rfl,rfl⟩))
    go_ret;exact⟨ret_bool HF.out.symm,(Below.refl _ _).alloc (Nat.le_refl _) _⟩
  ·have hkz:decide ((k:Int)<0)=false:=by rw[decide_eq_false_iff_not];omega
   have hkm:decide (20<(k:Int))=false:=by rw[decide_eq_false_iff_not];omega
   have hk17:((k:Int) !=17)=true:=by rw[bne_iff_ne];omega
   have hf:=bd_facts k hk h17;have HB0:=hid2 (λw=>refBounds_any k hk w);by_cases hn:alts.length=0
   ·have hn1:((alts.length:Int)==0)=true:=by simp[hn]
    have hn2:((alts.length:Int) !=0)=false:=by simp[hn]
    rw[hn1]at hR;have HR:=hid2 hR;clear hR hA ho hn1;generalize alts.length=n at*;subst hn;rcases hf with⟨f0,f1,f2,f3,f4⟩|rfl|⟨f0,f1,f2,f4⟩
    ·have HB:Hid (∀w,Calls Tryz.prog 139 #[.int .i64 k] w λe w'=>e=.returned (.tuple #[.int .i64 (rowN k 1),.int .i64 (rowN k 2)])∧w'=w):=λw=>by have:=HB0.out w;rw[f1,f2]at this;exact this
     have HR2:Hid (insG k a alts=(decide (rowN k 1<=a) && decide (a<=rowN k 2))):=by show _=_;rw[HR.out,f0];simp
     clear f0 f1 f2 f4 HR HB0;generalize rowN k 1=r1 at*;generalize rowN k 2=r2 at*;go_enter Tryz.func165,Tryz.ntmps165;go_wp2_with (first|(go_at_call 139;refine(HB.out _).mono ?_;rintro e w1 ⟨rfl,rfl⟩))
     all_goals
      go_ret;refine⟨ret_bool ?_,(Below.refl _ _).alloc (Nat.le_refl _) _⟩;rw[HR2.out];simp_all;try omega
    ·have HB:Hid (∀w,Calls Tryz.prog 139 #[.int .i64 0] w λe w'=>e=.returned (.tuple #[.int .i64 1,.int .i64 0])∧w'=w):=λw=>HB0.out w;have HR2:Hid (insG ((0:Nat):Int) a alts=true):=by show _=_;rw[HR.out];rfl
     clear HR HB0 hk17 hkz hkm;go_enter Tryz.func165,Tryz.ntmps165;go_wp2_with (first|(go_at_call 139;refine(HB.out _).mono ?_;rintro e w1 ⟨rfl,rfl⟩))
     go_ret;exact⟨ret_bool HR2.out.symm,(Below.refl _ _).alloc (Nat.le_refl _) _⟩
    ·have HB:Hid (∀w,Calls Tryz.prog 139 #[.int .i64 k] w λe w'=>e=.returned (.tuple #[.int .i64 1,.int .i64 0])∧w'=w):=λw=>by have:=HB0.out w;rw[f1,f2]at this;exact this
     have HR2:Hid (insG k a alts=(a==0)):=by show _=_;rw[HR.out,f0];simp
     have hk0:((k:Int)==0)=false:=by rw[beq_eq_false_iff_ne];omega
     clear f0 f1 f2 f4 HR HB0;cases ha:(a !=0)
     ·have ea:(a==0)=true:=by simpa using ha
      rw[ea]at HR2;go_enter Tryz.func165,Tryz.ntmps165;go_wp2_with (first|(go_at_call 139;refine(HB.out _).mono ?_;rintro e w1 ⟨rfl,rfl⟩))
      refine wp_loop_rounds 1 ?_;rw[rounds_succ];go_wp2;go_ret;exact⟨ret_bool HR2.out.symm,(Below.refl _ _).alloc (Nat.le_refl _) _⟩
     ·have ea:(a==0)=false:=by simpa using ha
      rw[ea]at HR2;go_enter Tryz.func165,Tryz.ntmps165;go_wp2_with (first|(go_at_call 139;refine(HB.out _).mono ?_;rintro e w1 ⟨rfl,rfl⟩))
      go_ret;exact⟨ret_bool HR2.out.symm,(Below.refl _ _).alloc (Nat.le_refl _) _⟩
   ·have hn1:((alts.length:Int)==0)=false:=by rw[beq_eq_false_iff_ne];omega
    have hn2:((alts.length:Int) !=0)=true:=by rw[bne_iff_ne];omega
    have HF:Hid (insG k a alts=false):=by
     show _=_;rw[hR,hn1];rcases hf with⟨f0,-⟩|rfl|⟨f0,-⟩
     ·rw[f0];simp
     ·rfl
     ·rw[f0];simp
    clear hR hA ho hf HB0;go_enter Tryz.func165,Tryz.ntmps165;go_wp2;go_ret;exact⟨ret_bool HF.out.symm,(Below.refl _ _).alloc (Nat.le_refl _) _⟩
 ·have HF:Hid (insG op a alts=false):=by show _=_;simp only[insG];rw[if_neg ho]
  clear hA;by_cases h0:op<0
  ·go_enter Tryz.func165,Tryz.ntmps165;go_wp2;go_ret;exact⟨ret_bool HF.out.symm,(Below.refl _ _).alloc (Nat.le_refl _) _⟩
  ·have h20:20<op:=by omega
   clear ho;go_enter Tryz.func165,Tryz.ntmps165;go_wp2;go_ret;exact⟨ret_bool HF.out.symm,(Below.refl _ _).alloc (Nat.le_refl _) _⟩
end Go.Proofs.YtdpodpjdcfjfgaaGreatDoor
