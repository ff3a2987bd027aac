import Derived.Test.YtlccndplhfcknaaGreatDoorJ3J
import Derived.Maps.OwnSet
import Derived.Maps.Views
import Derived.Test.YtlccndplhfcknaaGreatDoorRefSoundsJ
set_option maxRecDepth 100000
set_option maxHeartbeats 4000000
namespace Go.Proofs.YtlccndplhfcknaaGreatDoor
open Go.RowKit Go.Sort
def xmR:Value->Option (DataW Unit×List MemPlace)
 |.agg cs=>match cs.toList with
  |[.int .i64 a,.int .i64 b]=>some (.agg [.lit (.int .i64 a),.lit (.int .i64 b)],[])
  |_=>none
 |_=>none
theorem xmR_inv{v:Value}{a b:Int}{ps:List MemPlace}(h:xmR v=some (.agg [.lit (.int .i64 a),.lit (.int .i64 b)],ps)):v=.agg #[.int .i64 a,.int .i64 b]:=by
 unfold xmR at h;split at h
 ·split at h
  ·rename_i cs x y e
   simp at h;obtain⟨⟨rfl,rfl⟩,-⟩:=h;congr 1
   exact Array.toList_inj.1 e
  ·cases h
 ·cases h
def xmP:Option (Nat×Int)->Int×Int
 |some (n,a)=>((n:Int),a)
 |none=>(0,0)
def xmV(o:Option (Nat×Int)):Value:=.agg #[.int .i64 (xmP o).1,.int .i64 (xmP o).2]
def xmD(o:Option (Nat×Int)):DataW Unit:=.agg [.lit (.int .i64 (xmP o).1),.lit (.int .i64 (xmP o).2)]
def keyL(t:ByteArray):Lit:=.string t.data.toList
theorem keyL_inj{s t:ByteArray}(h:keyL s=keyL t):s=t:=Go.WideShapes.bytes_inj (by simpa[keyL]using h)
def XM(w:World)(b n:Nat)(f:ByteArray->Option (Nat×Int)):Prop:=∃D,w.ownsMap Tryz.prog 9 xmR b n D∧∀t:ByteArray,Maps.has D (keyL t)=(f t).isSome∧D.atKey (keyL t) (xmD none)=xmD (f t)
theorem Tryz.mapT:Tryz.prog.underlying 78=some (.map 9 83):=by kernel_rfl
theorem Tryz.zeroX(w:World):(zeroValue 83).run Tryz.prog w=.ok (xmV none) w:=by kernel_rfl
theorem XM.new(w:World):XM (w.alloc (.map #[] 0)) w.heap.size 0 λ_=>none:=⟨_,World.ownsMap_made w _ _ _,λ_=>⟨rfl,rfl⟩⟩
theorem XM.keep{w w':World}{b n:Nat}{f:ByteArray->Option (Nat×Int)}(h:XM w b n f)(hb:Below w.heap.size w w'):XM w' b n f:=by
 obtain⟨D,hD,hf⟩:=h;have hl:=hD.lt;obtain⟨es,clock,e,r⟩:=hD;exact⟨D,⟨es,clock,by rw[hb.block b hl];exact e,r⟩,hf⟩
theorem XM.congr{w:World}{b n:Nat}{f g:ByteArray->Option (Nat×Int)}(h:XM w b n f)(e:∀t,f t=g t):XM w b n g:=by
 obtain⟨D,hD,hf⟩:=h;exact⟨D,hD,λt=>by rw[<-e];exact hf t⟩
theorem XM.look{w:World}{b n:Nat}{f:ByteArray->Option (Nat×Int)}(h:XM w b n f)(t:ByteArray)(ht:t.size<=maxLen):(Instr.lookup 78 (.map (some b)) (.string t) true).run Tryz.prog w=.ok (.tuple #[xmV (f t),.bool (f t).isSome]) w:=by
 obtain⟨D,hD,hf⟩:=h;obtain⟨v,ps,hrun,hv⟩:=hD.look_ok (Maps.string_keyed Tryz.underlying9) Tryz.mapT (Tryz.zeroX w) (zd:=xmD none) (zp:=[]) rfl (Go.WideMaps.keyOf_string_mk Tryz.underlying9 ht);rw[hrun];have:=hf t;unfold keyL at this;rw[this.1,xmR_inv (hv.trans (by rw[this.2];rfl))];rfl
theorem XM.look1{w:World}{b n:Nat}{f:ByteArray->Option (Nat×Int)}(h:XM w b n f)(t:ByteArray)(ht:t.size<=maxLen):(Instr.lookup 78 (.map (some b)) (.string t) false).run Tryz.prog w=.ok (xmV (f t)) w:=by
 obtain⟨D,hD,hf⟩:=h;obtain⟨v,ps,hrun,hv⟩:=hD.lookup (Maps.string_keyed Tryz.underlying9) Tryz.mapT (Tryz.zeroX w) (zd:=xmD none) (zp:=[]) rfl (Go.WideMaps.keyOf_string_mk Tryz.underlying9 ht);rw[hrun];have:=hf t;unfold keyL at this;rw[xmR_inv (hv.trans (by rw[this.2];rfl))];rfl
def exK(Os:List LObj)(k:Nat)(t:ByteArray):Option (Nat×Int):=(exO t (Os.take k) 0 0).map λx=>(x.1,x.2.2)
def exKJ(Os:List LObj)(k:Nat)(gl:List LGlob)(j:Nat)(t:ByteArray):Option (Nat×Int):=match exK Os k t with
 |some x=>some x
 |none=>exG t (gl.take j) (gBase Os k)
theorem exG_app(t:ByteArray):∀(A B:List LGlob) (n:Nat),exG t (A++B) n=match exG t A n with|some x=>some x|none=>exG t B (n+A.length)
 |[],B,n=>rfl
 |g::A,B,n=>by
  rw[List.cons_append,exG,exG];split
  ·rfl
  ·rw[exG_app t A B,List.length_cons,show n+1+A.length=n+(A.length+1) by omega]
theorem exO_app(t:ByteArray):∀(A B:List LObj) (k n:Nat),exO t (A++B) k n=match exO t A k n with|some x=>some x|none=>exO t B (k+A.length) (n+(A.map λO=>O.globs.length).sum)
 |[],B,k,n=>rfl
 |O::A,B,k,n=>by
  rw[List.cons_append,exO,exO];split
  ·rfl
  ·rw[exO_app t A B,List.length_cons,List.map_cons,List.sum_cons,show k+1+A.length=k+(A.length+1) by omega,Nat.add_assoc]
theorem exKJ_succ{Os:List LObj}{k:Nat}{gl:List LGlob}{j:Nat}(t:ByteArray)(hj:j<gl.length):exKJ Os k gl (j+1) t=match exKJ Os k gl j t with|some x=>some x|none=>if gl[j].exp && decide (gl[j].name=t) then some (gBase Os k+j,gl[j].arity) else none:=by
 unfold exKJ;cases exK Os k t with
 |some x=>rfl
 |none=>
  simp only;rw[List.take_succ_eq_append_getElem hj,exG_app,List.length_take,Nat.min_eq_left (by omega)];cases exG t (gl.take j) (gBase Os k) with
  |some x=>rfl
  |none=>simp only[exG]
theorem exKJ_end{Os:List LObj}{k:Nat}(hk:k<Os.length)(t:ByteArray):exKJ Os k Os[k].globs Os[k].globs.length t=exK Os (k+1) t:=by
 unfold exKJ;rw[List.take_length];have e:exK Os (k+1) t=(exO t (Os.take k++[Os[k]]) 0 0).map λx=>(x.1,x.2.2):=by unfold exK;rw[List.take_succ_eq_append_getElem hk]
 rw[e,exO_app];unfold exK;cases exO t (Os.take k) 0 0 with
 |some x=>rfl
 |none=>
  simp only[Option.map_none,exO,Nat.zero_add];unfold gBase;cases exG t Os[k].globs ((Os.take k).map λO=>O.globs.length).sum with
  |some x=>rfl
  |none=>rfl
theorem exK_all(Os:List LObj)(t:ByteArray):exK Os Os.length t=(expo Os t).map λx=>(x.1,x.2.2):=by unfold exK expo;rw[List.take_length]
def dpJ(Os:List LObj)(k:Nat)(gl:List LGlob)(j:Nat)(g:LGlob):Bool:=g.exp && (exKJ Os k gl j g.name).isSome
def dpB(Os:List LObj)(k:Nat)(O:LObj):Bool:=(fstF (dpJ Os k O.globs) O.globs 0).isSome
end Go.Proofs.YtlccndplhfcknaaGreatDoor
namespace Go.Proofs.YtlccndplhfcknaaGreatDoor
open Go.RowKit
theorem In_any(t:TypeId)(x:Value)(k n:Int)(w:World):
 Calls Tryz.prog 54 #[.iface t x,.int .i64 k,.int .i64 n] w λe w'=>e=.returned (.iface 89 (.agg #[.iface t x,.int .i64 k,.int .i64 n]))∧Below w.heap.size w w':=by
 go_enter Tryz.func54,Tryz.ntmps54;go_wp2;go_ret;exact⟨rfl,Below.refl _ _⟩
theorem place_nil(w:World):Calls Tryz.prog 15 #[.nilIface] w λe w'=>e=.returned (.agg #[.int .i64 0,.int .i64 0])∧Below w.heap.size w w':=by
 go_enter Tryz.func15,Tryz.ntmps15;go_wp2_with (first|(go_at_call 28;refine(as_nil _ _).mono ?_;rintro e w1 ⟨rfl,rfl⟩))
 refine bodyPost_ret (v:=.agg #[.int .i64 0,.int .i64 0]) (by simp[results,Tryz.results15,go_sem]) rfl ?_;exact⟨rfl,((Below.refl _ _).alloc (Nat.le_refl _) _).alloc (by simp) _⟩
theorem place_plain{w:World}{adr:Nat->Addr}(hS:SentAt w adr)(a:Addr):Calls Tryz.prog 15 #[errE a] w λe w'=>e=.returned (.agg #[.int .i64 0,.int .i64 0])∧Below w.heap.size w w':=by
 have HB0:Hid (∀o1 o2,Below w.heap.size w ((w.alloc o1).alloc o2)):=λo1 o2=>((Below.refl _ _).alloc (Nat.le_refl _) _).alloc (by simp) _;have HP0:Hid (∀o2,P2 ((w.alloc (.cells #[.int .i64 0,.int .i64 0] 46)).alloc o2) w.heap.size):=λo2=>⟨by simp,by simp,by simp,by simp⟩;have HE:Hid (w.cell? ⟨19,0,none⟩=some (.iface 154 (.agg #[.pointer (some ⟨25,57,none⟩)]))):=hS.et;clear hS;unfold errE;go_enter Tryz.func15,Tryz.ntmps15;go_wp2_with (first|(go_at_call 28;refine(as_miss a _ _ (cell_keep (HB0.out _ _) HE.out)).mono ?_;rintro e w1 ⟨rfl,hb1⟩;have hp:=(HP0.out _).keep hb1;obtain⟨p0,p1,p2,p3⟩:=id hp;have HP1:Hid (P2 w1 w.heap.size):=hp;have HB1:Hid (Below w.heap.size w w1):=(HB0.out _ _).trans (hb1.mono (by simp;omega));clear hp))
 obtain⟨s0,s1⟩:=HP1.out.put (.int .i64 0) (.int .i64 0);refine bodyPost_ret (v:=.agg #[.int .i64 0,.int .i64 0]) (by simp[results,Tryz.results15,go_sem,s0,s1]) rfl ?_;exact⟨rfl,(HB1.out.setCell (by simp) _).setCell (by simp) _⟩
structure Hit (w w':World) (tb:Nat) (k n:Int):Prop where
 c1:w'.cell? ⟨tb,1,none⟩=some (.int .i64 k)
 c2:w'.cell? ⟨tb,2,none⟩=some (.int .i64 n)
 old:∀b o,b<w.heap.size->b≠tb->w'.cell? ⟨b,o,none⟩=w.cell? ⟨b,o,none⟩∧w'.frozen? ⟨b,o,none⟩=w.frozen? ⟨b,o,none⟩
 below:∀B,B<=tb->B<=w.heap.size->Below B w w'
theorem as_found(x:Value)(k n:Int)(tb:Nat)(o0 o1 o2:Value)(w:World)(hg:w.cell? ⟨19,0,none⟩=some (.iface 154 (.agg #[.pointer (some ⟨25,57,none⟩)])))
 (t0:w.cell? ⟨tb,0,none⟩=some o0) (t1:w.cell? ⟨tb,1,none⟩=some o1) (t2:w.cell? ⟨tb,2,none⟩=some o2) (f0:w.frozen? ⟨tb,0,none⟩=false) (f1:w.frozen? ⟨tb,1,none⟩=false) (f2:w.frozen? ⟨tb,2,none⟩=false) (ox:x.oneCell'=true):
 Calls Tryz.prog 28 #[.iface 89 (.agg #[x,.int .i64 k,.int .i64 n]),.iface 91 (.pointer (some ⟨tb,0,none⟩))] w λev w'=>ev=.returned (.bool true)∧Hit w w' tb k n:=by
 refine(as_hit x k n tb o0 o1 o2 w hg t0 t1 t2 f0 f1 f2 ox).mono ?_;rintro e w' ⟨rfl,rfl⟩;refine⟨rfl,?_⟩;have hb3:Below w.heap.size w (asW w ⟨tb,0,none⟩):=(((Below.refl _ _).alloc (Nat.le_refl _) _).alloc (by simp) _).alloc (by simp;omega) _;have hb4:Below w.heap.size w ((asW w ⟨tb,0,none⟩).alloc (.cells #[x,.int .i64 k,.int .i64 n] 89)):=hb3.alloc hb3.size _;generalize (asW w ⟨tb,0,none⟩).alloc (.cells #[x,.int .i64 k,.int .i64 n] 89)=W at*;have ne:∀{b o c:Nat},o≠c->(⟨b,o,none⟩:Addr)≠⟨b,c,none⟩:=λh e=>h (congrArg Addr.off e);have nb:∀{b o c:Nat},b≠tb->(⟨tb,c,none⟩:Addr)≠⟨b,o,none⟩:=λh e=>h (congrArg Addr.block e).symm;refine⟨?_,?_,λb o hb hne=>⟨?_,?_⟩,λB h1 h2=>?_⟩
 ·rw[World.cell?_setCell_other _ _ _ _ (ne (by decide))];exact World.cell?_setCell_same _ _ _ (u:=o1) (by rw[World.cell?_setCell_other _ _ _ _ (ne (by decide))];exact cell_keep hb4 t1)
 ·exact World.cell?_setCell_same _ _ _ (u:=o2) (by rw[World.cell?_setCell_other _ _ _ _ (ne (by decide)),World.cell?_setCell_other _ _ _ _ (ne (by decide))];exact cell_keep hb4 t2)
 ·rw[World.cell?_setCell_other _ _ _ _ (nb hne),World.cell?_setCell_other _ _ _ _ (nb hne),World.cell?_setCell_other _ _ _ _ (nb hne)];exact(bcell hb4).1 b o hb
 ·simp only[World.frozen?_setCell];exact(bcell hb4).2 b o hb
 ·exact(((hb4.mono h2).setCell (p:=⟨tb,0,none⟩) h1 _).setCell (p:=⟨tb,1,none⟩) h1 _).setCell (p:=⟨tb,2,none⟩) h1 _
theorem place_fault{w:World}{adr:Nat->Addr}(hS:SentAt w adr)(a:Addr)(k n:Int):Calls Tryz.prog 15 #[errF a k n] w λe w'=>e=.returned (.agg #[.int .i64 k,.int .i64 n])∧Below w.heap.size w w':=by
 have HB0:Hid (∀o1 o2,Below w.heap.size w ((w.alloc o1).alloc o2)):=λo1 o2=>((Below.refl _ _).alloc (Nat.le_refl _) _).alloc (by simp) _;have HP0:Hid (∀o2,P2 ((w.alloc (.cells #[.int .i64 0,.int .i64 0] 46)).alloc o2) w.heap.size):=λo2=>⟨by simp,by simp,by simp,by simp⟩;have HE:Hid (w.cell? ⟨19,0,none⟩=some (.iface 154 (.agg #[.pointer (some ⟨25,57,none⟩)]))):=hS.et;clear hS;unfold errF;go_enter Tryz.func15,Tryz.ntmps15;go_wp2_with (first|(go_at_call 28;refine(as_found _ k n _ .nilIface (.int .i64 0) (.int .i64 0) _ (cell_keep (HB0.out _ _) HE.out) (by simp) (by simp) (by simp) (by simp) (by simp) (by simp) rfl).mono ?_;rintro e w1 ⟨rfl,hh⟩;have c1:=hh.c1;have c2:=hh.c2;have hp:P2 w1 w.heap.size:=⟨by rw[(hh.old _ 0 (by simp;omega) (by omega)).1];exact(HP0.out _).1,by rw[(hh.old _ 1 (by simp;omega) (by omega)).1];exact(HP0.out _).2.1,by rw[(hh.old _ 0 (by simp;omega) (by omega)).2];exact(HP0.out _).2.2.1,by rw[(hh.old _ 1 (by simp;omega) (by omega)).2];exact(HP0.out _).2.2.2⟩;obtain⟨p0,p1,p2,p3⟩:=id hp;have HP1:Hid (P2 w1 w.heap.size):=hp;have HB1:Hid (Below w.heap.size w w1):=(HB0.out _ _).trans (hh.below _ (by omega) (by simp;omega));clear hp hh))
 obtain⟨s0,s1⟩:=HP1.out.put (.int .i64 k) (.int .i64 n);refine bodyPost_ret (v:=.agg #[.int .i64 k,.int .i64 n]) (by simp[results,Tryz.results15,go_sem,s0,s1]) rfl ?_;exact⟨rfl,(HB1.out.setCell (by simp) _).setCell (by simp) _⟩
end Go.Proofs.YtlccndplhfcknaaGreatDoor
namespace Go.Proofs.YtlccndplhfcknaaGreatDoor
open Go.RowKit Go.Sort
def errS(adr:Nat->Addr):Option (Nat×Nat×Nat)->Value
 |some (e,k,i)=>errF (adr (e+1)) (k:Int) (i:Int)
 |none=>.nilIface
theorem gBad_le{code:List LIns}{d0 most:Int}{e i:Nat}(h:gBad code d0 most=some (e,i)):e<=2:=by
 unfold gBad at h;split at h
 ·simp at h;omega
 ·split at h
  ·simp at h;omega
  ·split at h
   ·simp at h;omega
   ·split at h
    ·simp at h;omega
    ·cases h
def Looks(code:List LIns)(d0 most:Int)(r:Option (Nat×Nat)):Prop:=
 (∃k,firstBad (badIdx most) code=some k∧r=some (0,k))∨
 (firstBad (badIdx most) code=none∧((∃k:Nat,wildJ code=.tuple #[.int .i64 (k:Int),.bool true]∧r=some (1,k))∨
  (∃k:Int,wildJ code=.tuple #[.int .i64 k,.bool false]∧Fine code∧((∃k,firstBad (badD (depOf code d0)) code=some k∧r=some (2,k))∨(firstBad (badD (depOf code d0)) code=none∧r=none)))))
theorem looks_of{code:List LIns}(d0 most:Int)(hg:codeG code=true):Looks code d0 most (gBad code d0 most):=by
 cases h1:firstBad (badIdx most) code with
 |some k=>exact Or.inl ⟨k,h1,gBad_idx h1⟩
 |none=>
  refine Or.inr ⟨h1,?_⟩;have hw:=wildJ_eq hg;by_cases h0:code.length=0
  ·rw[if_pos h0]at hw;exact Or.inl ⟨0,hw,gBad_empty h1 h0⟩
  ·rw[if_neg h0]at hw;cases h2:firstBad (badNext code.length) code with
   |some k=>
    rw[h2]at hw;exact Or.inl ⟨k,hw,gBad_jump h1 h0 h2⟩
   |none=>
    rw[h2]at hw;refine Or.inr ⟨_,hw,(fine_of hg h0 h2).fine,?_⟩;cases h3:firstBad (badD (depOf code d0)) code with
    |some k=>exact Or.inl ⟨k,rfl,by unfold gBad;rw[h1];simp only;rw[if_neg h0,h2];simp only;rw[h3]⟩
    |none=>exact Or.inr ⟨rfl,by unfold gBad;rw[h1];simp only;rw[if_neg h0,h2];simp only;rw[h3]⟩
theorem objSound_any(adr:Nat->Addr)(nm:ByteArray)(iv gv:Value)(imps:List LImp)(globs:List LGlob)(w:World)(hI:ImpsAt w iv imps)(hG:GlobsAt w gv globs)(hg:GoodGs globs)(hT:TabAt w)(hS:SentAt w adr):
 Calls Tryz.prog 33 #[.agg #[.string nm,iv,gv]] w λe w'=>e=.returned (errS adr (sBad (imps.length+globs.length) globs 0))∧Below w.heap.size w w':=by
 obtain⟨ip,ic,rfl,hi1,-⟩:=hI.open;obtain⟨p,cap,rfl,hs1,hcell⟩:=hG.open;have HC:Hid (∀w',Below w.heap.size w w'->GlobsIn w' p globs):=hcell;have HG:Hid (GoodGs globs):=hg;have HT:Hid (TabAt w):=hT;have HS:Hid (SentAt w adr):=hS;clear hcell hG hg hI hT hS;go_enter Tryz.func33,Tryz.ntmps33;go_wp2;go_loopw [22] (λi wr=>∃k:Nat,k<=globs.length∧i=.int .i64 k∧Hid (sBad ((imps.length:Int)+(globs.length:Int)) globs 0=sBad ((imps.length:Int)+(globs.length:Int)) (globs.drop k) k)∧Hid (Below w.heap.size w wr)) (λi _=>globs.length-(intOf i).toNat)
 case atStart=>exact⟨0,Nat.zero_le _,rfl,rfl,(Below.refl _ _).alloc (Nat.le_refl _) _⟩
 case round=>
  obtain⟨k,hk,rfl,ha,hb⟩:=hrel;by_cases hlt:k<globs.length
  ·obtain⟨b,o,cp,cn,cc,rfl,c0,c1,c2,c3,hC,hsz⟩:=HC.out _ hb.out k hlt;obtain⟨g1,g2,g3⟩:=HG.out k hlt;have hL:=looks_of (globs[k].arity+1) ((imps.length:Int)+(globs.length:Int)) g1;have HSS:Hid (∀e i,gBad globs[k].code (globs[k].arity+1) ((imps.length:Int)+(globs.length:Int))=some (e,i)->sBad ((imps.length:Int)+(globs.length:Int)) globs 0=some (e,k,i)):=λe i h=>by rw[ha.out];exact sBad_some hlt h
   have HSN:Hid (gBad globs[k].code (globs[k].arity+1) ((imps.length:Int)+(globs.length:Int))=none->sBad ((imps.length:Int)+(globs.length:Int)) globs 0=sBad ((imps.length:Int)+(globs.length:Int)) (globs.drop (k+1)) (k+1)):=λh=>by rw[ha.out];exact sBad_next hlt h
   have HWI:Hid (∀w',Below wr.heap.size wr w'->Calls Tryz.prog 53 #[.slice cp cn cc,.int .i64 ((imps.length:Int)+(globs.length:Int))] w' λe w''=>e=.returned (pairOf (firstBad (badIdx ((imps.length:Int)+(globs.length:Int))) globs[k].code))∧Below w'.heap.size w' w''):=λw' hbw=>wildIndex_any _ _ _ w' (hC.keep hbw);have HWJ:Hid (∀w',Below wr.heap.size wr w'->Calls Tryz.prog 55 #[.slice cp cn cc] w' λe w''=>e=.returned (wildJ globs[k].code)∧Below w'.heap.size w' w''):=λw' hbw=>wildJump_any _ _ w' (hC.keep hbw);have HWD:Hid (Fine globs[k].code->∀w',Below wr.heap.size wr w'->Calls Tryz.prog 56 #[.slice cp cn cc,.int .i64 (globs[k].arity+1)] w' λe w''=>e=.returned (pairOf (firstBad (badD (depOf globs[k].code (globs[k].arity+1))) globs[k].code))∧Below w'.heap.size w' w''):=λhf w' hbw=>(wrongDepth_any _ _ _ w' (hC.keep hbw) (HT.out.keep (hb.out.trans (hbw.mono hb.out.size))) hf (by omega) (by omega)).mono λ_ _ ⟨⟨dep,hd,he⟩,h2⟩=>⟨by rw[depOf_eq hd];exact he,h2⟩;have hbs:=hb.out.size;rename World=>W2
   have HB0:Hid (∀ob,Below W2.heap.size W2 (W2.alloc ob)):=λob=>(Below.refl _ _).alloc (Nat.le_refl _) _;have HCL:Hid (∀w',Below W2.heap.size W2 w'->w'.cell? ⟨13,0,none⟩=some (.iface 234 (.pointer (some (adr 1))))∧w'.cell? ⟨14,0,none⟩=some (.iface 234 (.pointer (some (adr 2))))∧w'.cell? ⟨15,0,none⟩=some (.iface 234 (.pointer (some (adr 3))))):=λw' hbw=>by
    have h:=HS.out.keep (hb.out.trans (hbw.mono hbs));exact⟨h.c 1 (by omega),h.c 2 (by omega),h.c 3 (by omega)⟩
   clear hC g1 ha;generalize gBad globs[k].code (globs[k].arity+1) ((imps.length:Int)+(globs.length:Int))=r at*;generalize globs[k].code=code at*;generalize globs[k].name=gn at*;generalize globs[k].arity=ar at*;generalize globs[k].exp=gex at*;rcases hL with⟨j,h1,rfl⟩|⟨h1,⟨j,h2,rfl⟩|⟨j,h2,hf,h3⟩⟩
   ·have HR:=hid (HSS.out _ _ rfl);rw[h1]at HWI;go_wp2_with (first|(go_at_call 53;refine(HWI.out _ (HB0.out _)).mono ?_;rintro e w1 ⟨rfl,hb1⟩;have hb2:Below W2.heap.size W2 w1:=(HB0.out _).trans (hb1.mono (by simp));have y3:=cell_keep hb1 (alloc_cell W2 _ _ 3 _ rfl);have y1:=cell_keep hb1 (alloc_cell W2 _ _ 1 _ rfl);obtain⟨s1,s2,s3⟩:=HCL.out _ hb2;simp only[pairOf])|(go_at_call 54;refine(In_any _ _ _ _ _).mono ?_;rintro e w7 ⟨rfl,hb7⟩))
    go_ret;exact⟨ret_val (by rw[HR.out];rfl),(hb.out.trans (hb2.mono hbs)).trans (hb7.mono (by have:=hb2.size;omega))⟩
   ·have HR:=hid (HSS.out _ _ rfl);rw[h1]at HWI;rw[h2]at HWJ;go_wp2_with (first|(go_at_call 53;refine(HWI.out _ (HB0.out _)).mono ?_;rintro e w1 ⟨rfl,hb1⟩;have hb2:Below W2.heap.size W2 w1:=(HB0.out _).trans (hb1.mono (by simp));have y3:=cell_keep hb1 (alloc_cell W2 _ _ 3 _ rfl);have y1:=cell_keep hb1 (alloc_cell W2 _ _ 1 _ rfl);obtain⟨s1,s2,s3⟩:=HCL.out _ hb2;simp only[pairOf])|(go_at_call 55;refine(HWJ.out _ hb2).mono ?_;rintro e w3 ⟨rfl,hb3⟩;have hb4:Below W2.heap.size W2 w3:=hb2.trans (hb3.mono hb2.size);have y3:=cell_keep hb3 y3;have y1:=cell_keep hb3 y1;obtain⟨s1,s2,s3⟩:=HCL.out _ hb4)|(go_at_call 54;refine(In_any _ _ _ _ _).mono ?_;rintro e w7 ⟨rfl,hb7⟩))
    go_ret;exact⟨ret_val (by rw[HR.out];rfl),(hb.out.trans (hb4.mono hbs)).trans (hb7.mono (by have:=hb4.size;omega))⟩
   ·have HWD2:=hid (HWD.out hf);rw[h1]at HWI;rw[h2]at HWJ;clear HWD hf h1 h2;rcases h3 with⟨j3,h3,rfl⟩|⟨h3,rfl⟩
    ·have HR:=hid (HSS.out _ _ rfl);rw[h3]at HWD2;go_wp2_with (first|(go_at_call 53;refine(HWI.out _ (HB0.out _)).mono ?_;rintro e w1 ⟨rfl,hb1⟩;have hb2:Below W2.heap.size W2 w1:=(HB0.out _).trans (hb1.mono (by simp));have y3:=cell_keep hb1 (alloc_cell W2 _ _ 3 _ rfl);have y1:=cell_keep hb1 (alloc_cell W2 _ _ 1 _ rfl);obtain⟨s1,s2,s3⟩:=HCL.out _ hb2;simp only[pairOf])|(go_at_call 55;refine(HWJ.out _ hb2).mono ?_;rintro e w3 ⟨rfl,hb3⟩;have hb4:Below W2.heap.size W2 w3:=hb2.trans (hb3.mono hb2.size);have y3:=cell_keep hb3 y3;have y1:=cell_keep hb3 y1;obtain⟨s1,s2,s3⟩:=HCL.out _ hb4)|(go_at_call 56;refine(HWD2.out _ hb4).mono ?_;rintro e w5 ⟨rfl,hb5⟩;have hb6:Below W2.heap.size W2 w5:=hb4.trans (hb5.mono hb4.size);obtain⟨s1,s2,s3⟩:=HCL.out _ hb6;simp only[pairOf])|(go_at_call 54;refine(In_any _ _ _ _ _).mono ?_;rintro e w7 ⟨rfl,hb7⟩))
     go_ret;exact⟨ret_val (by rw[HR.out];rfl),(hb.out.trans (hb6.mono hbs)).trans (hb7.mono (by have:=hb6.size;omega))⟩
    ·have HR:=hid (HSN.out rfl);rw[h3]at HWD2;go_wp2_with (first|(go_at_call 53;refine(HWI.out _ (HB0.out _)).mono ?_;rintro e w1 ⟨rfl,hb1⟩;have hb2:Below W2.heap.size W2 w1:=(HB0.out _).trans (hb1.mono (by simp));have y3:=cell_keep hb1 (alloc_cell W2 _ _ 3 _ rfl);have y1:=cell_keep hb1 (alloc_cell W2 _ _ 1 _ rfl);obtain⟨s1,s2,s3⟩:=HCL.out _ hb2;simp only[pairOf])|(go_at_call 55;refine(HWJ.out _ hb2).mono ?_;rintro e w3 ⟨rfl,hb3⟩;have hb4:Below W2.heap.size W2 w3:=hb2.trans (hb3.mono hb2.size);have y3:=cell_keep hb3 y3;have y1:=cell_keep hb3 y1;obtain⟨s1,s2,s3⟩:=HCL.out _ hb4)|(go_at_call 56;refine(HWD2.out _ hb4).mono ?_;rintro e w5 ⟨rfl,hb5⟩;have hb6:Below W2.heap.size W2 w5:=hb4.trans (hb5.mono hb4.size);obtain⟨s1,s2,s3⟩:=HCL.out _ hb6;simp only[pairOf]))
     exact⟨⟨k+1,by omega,by go_num,HR,hb.out.trans (hb6.mono hbs)⟩,by simp[intOf];omega⟩
  ·go_wp2;go_ret;exact⟨ret_val (by rw[ha.out,List.drop_of_length_le (by omega)];rfl),hb.out⟩
theorem sBad_le{most:Int}{e k i:Nat}:∀(l:List LGlob) (j:Nat),sBad most l j=some (e,k,i)->e<=2
 |[],_,h=>by simp[sBad]at h
 |g::r,j,h=>by
  rw[sBad]at h;split at h
  ·rename_i e' i' hb
   have:=gBad_le hb;simp at h;omega
  ·exact sBad_le r (j+1) h
theorem kCode_next{e:Nat}(h:e<=2):kCode (e+1)=12+(e:Int):=by
 rcases(show e=0∨e=1∨e=2 by omega) with rfl|rfl|rfl<;>rfl
structure Told (w:World) (v:Value) (c x y:Int):Prop where
 kind:∀w',Below w.heap.size w w'->Calls Tryz.prog 14 #[v] w' λe w''=>e=.returned (.int .i64 c)∧Below w'.heap.size w' w''
 place:∀w',Below w.heap.size w w'->Calls Tryz.prog 15 #[v] w' λe w''=>e=.returned (.agg #[.int .i64 x,.int .i64 y])∧Below w'.heap.size w' w''
theorem told_nil(w:World):Told w .nilIface 0 0 0:=⟨λw' _=>(kind_nil w').mono λ_ _ ⟨h1,h2⟩=>⟨h1,by rw[h2];exact Below.refl _ _⟩,λw' _=>place_nil w'⟩
theorem told_plain{w:World}{adr:Nat->Addr}(hS:SentAt w adr)(i:Nat)(hi:0<=i∧i<19):Told w (errE (adr i)) (kCode i) 0 0:=⟨λ_ hb=>kind_plain (hS.keep hb) i hi,λ_ hb=>place_plain (hS.keep hb) (adr i)⟩
theorem told_fault{w:World}{adr:Nat->Addr}(hS:SentAt w adr)(i:Nat)(hi:0<=i∧i<19)(k n:Int):Told w (errF (adr i) k n) (kCode i) k n:=⟨λ_ hb=>kind_fault (hS.keep hb) i hi k n,λ_ hb=>place_fault (hS.keep hb) (adr i) k n⟩
noncomputable def errC(adr:Nat->Addr)(O:LObj):Value:=if valsG O then errS adr (sBad (O.imps.length+O.globs.length) O.globs 0) else errE (adr 0)
theorem objCheck_any(O:LObj)(v:Value)(w:World)(adr:Nat->Addr)(hO:ObjAt w v O)(hT:TabAt w)(hS:SentAt w adr):
 Calls Tryz.prog 20 #[v] w λe w'=>e=.returned (errC adr O)∧Below w.heap.size w w':=by
 have HVA:Hid (∀w',Below w.heap.size w w'->Calls Tryz.prog 32 #[v] w' λe w''=>e=.returned (errV (valsG O) (errE (adr 0)))∧Below w'.heap.size w' w''):=λw' hb=>Values_any O v (errE (adr 0)) w' (hO.keep hb) (hT.keep hb) ((hS.keep hb).c 0 (by omega)) ⟨_,_,rfl⟩;obtain⟨iv,gv,rfl,hsz,hI,hG⟩:=id hO;obtain⟨ip,ic,rfl,hi1,-⟩:=hI.open;obtain⟨p,cap,rfl,hs1,-⟩:=hG.open;have HB0:Hid (∀o,Below w.heap.size w (w.alloc o)):=λo=>(Below.refl _ _).alloc (Nat.le_refl _) _;cases hv:valsG O
 ·have HV2:Hid (∀w',Below w.heap.size w w'->Calls Tryz.prog 32 #[.agg #[.string O.name,.slice ip O.imps.length ic,.slice p O.globs.length cap]] w' λe w''=>e=.returned (.iface 234 (.pointer (some (adr 0))))∧Below w'.heap.size w' w''):=by
   have:=HVA.out;rw[hv]at this;exact this
  have HD:Hid (errC adr O=.iface 234 (.pointer (some (adr 0)))):=by show _=_;unfold errC;rw[hv];rfl
  clear hO hT hS hI hG HVA hv;generalize O.imps.length=n1 at*;generalize O.globs.length=n2 at*;go_enter Tryz.func20,Tryz.ntmps20;go_wp2_with (first|(go_at_call 32;refine(HV2.out _ (HB0.out _)).mono ?_;rintro e w1 ⟨rfl,hb1⟩))
  go_ret;exact⟨ret_val HD.out.symm,(HB0.out _).trans (hb1.mono (by simp))⟩
 ·have HV2:Hid (∀w',Below w.heap.size w w'->Calls Tryz.prog 32 #[.agg #[.string O.name,.slice ip O.imps.length ic,.slice p O.globs.length cap]] w' λe w''=>e=.returned .nilIface∧Below w'.heap.size w' w''):=by
   have:=HVA.out;rw[hv]at this;exact this
  have HOS:Hid (∀w',Below w.heap.size w w'->Calls Tryz.prog 33 #[.agg #[.string O.name,.slice ip O.imps.length ic,.slice p O.globs.length cap]] w' λe w''=>e=.returned (errC adr O)∧Below w'.heap.size w' w''):=by
   intro w' hb;have hg:GoodGs O.globs:=by
    have hv':=hv;simp only[valsG,Bool.and_eq_true]at hv';exact goodGs_of _ _ _ hv'.2
   have hc:errC adr O=errS adr (sBad (O.imps.length+O.globs.length) O.globs 0):=by unfold errC;rw[hv];rfl
   rw[hc];exact objSound_any adr O.name _ _ O.imps O.globs w' (hI.keep hb) (hG.keep hb) hg (hT.keep hb) (hS.keep hb)
  clear hO hT hS hI hG HVA hv;generalize O.imps.length=n1 at*;generalize O.globs.length=n2 at*;generalize errC adr O=r at*;go_enter Tryz.func20,Tryz.ntmps20;go_wp2_with (first|(go_at_call 32;refine(HV2.out _ (HB0.out _)).mono ?_;rintro e w1 ⟨rfl,hb0⟩;have hb1:Below w.heap.size w w1:=(HB0.out _).trans (hb0.mono (by simp));have y0:=cell_keep hb0 (alloc_cell w _ _ 0 _ rfl);have y1:=cell_keep hb0 (alloc_cell w _ _ 1 _ rfl);have y2:=cell_keep hb0 (alloc_cell w _ _ 2 _ rfl))|(go_at_call 33;refine(HOS.out _ hb1).mono ?_;rintro e w3 ⟨rfl,hb3⟩))
  go_ret;exact⟨rfl,hb1.trans (hb3.mono hb1.size)⟩
theorem tarnSound_told(O:LObj)(v r:Value)(c x y:Int)(w:World)(hO:ObjAt w v O)(hC:∀w',Below w.heap.size w w'->Calls Tryz.prog 20 #[v] w' λe w''=>e=.returned r∧Below w'.heap.size w' w'')(hT:Told w r c x y):
 Calls Tryz.prog 10 #[v] w λe w'=>e=.returned (.tuple #[.int .i64 c,.agg #[.int .i64 x,.int .i64 y]])∧Below w.heap.size w w':=by
 obtain⟨iv,gv,rfl,hsz,hI,hG⟩:=id hO;obtain⟨ip,ic,rfl,hi1,-⟩:=hI.open;obtain⟨p,cap,rfl,hs1,-⟩:=hG.open;have HC:Hid (∀w',Below w.heap.size w w'->Calls Tryz.prog 20 #[.agg #[.string O.name,.slice ip O.imps.length ic,.slice p O.globs.length cap]] w' λe w''=>e=.returned r∧Below w'.heap.size w' w''):=hC;have HT0:Hid (Told w r c x y):=hT;clear hC hT hO hI hG;generalize O.imps.length=n1 at*;generalize O.globs.length=n2 at*;have HB0:Hid (∀o1 o2,Below w.heap.size w ((w.alloc o1).alloc o2)):=λo1 o2=>((Below.refl _ _).alloc (Nat.le_refl _) _).alloc (by simp) _;have HP0:Hid (∀o1,P2 ((w.alloc o1).alloc (.cells #[.int .i64 0,.int .i64 0] 46)) (w.heap.size+1)):=λo1=>⟨by simp,by simp,by simp,by simp⟩;go_enter Tryz.func10,Tryz.ntmps10;go_wp2_with (first
  |(go_at_call 20;refine(HC.out _ (HB0.out _ _)).mono ?_;rintro e w1 ⟨rfl,hb1⟩;have hp1:=(HP0.out _).keep hb1;have hb2:Below w.heap.size w w1:=(HB0.out _ _).trans (hb1.mono (by simp;omega)))
  |(go_at_call 14;refine(HT0.out.kind _ hb2).mono ?_;rintro e w3 ⟨rfl,hb3⟩;have hp3:=hp1.keep hb3;have hb4:Below w.heap.size w w3:=hb2.trans (hb3.mono hb2.size))
  |(go_at_call 15;refine(HT0.out.place _ hb4).mono ?_;rintro e w5 ⟨rfl,hb5⟩;have hp5:=hp3.keep hb5;have HP5:Hid (P2 w5 (w.heap.size+1)):=hp5;have HB6:Hid (Below w.heap.size w w5):=hb4.trans (hb5.mono hb4.size);obtain⟨p0,p1,p2,p3⟩:=hp5))
 obtain⟨s0,s1⟩:=HP5.out.put (.int .i64 x) (.int .i64 y);refine bodyPost_ret (v:=.tuple #[.int .i64 c,.agg #[.int .i64 x,.int .i64 y]]) (by simp[results,Tryz.results10,go_sem,s0,s1]) rfl ?_;exact⟨rfl,(HB6.out.setCell (by simp) _).setCell (by simp) _⟩
theorem tarnSound_any(O:LObj)(v:Value)(w:World)(adr:Nat->Addr)(hO:ObjAt w v O)(hT:TabAt w)(hS:SentAt w adr):
 Calls Tryz.prog 10 #[v] w λe w'=>e=.returned (docS O)∧Below w.heap.size w w':=by
 have hC:∀w',Below w.heap.size w w'->Calls Tryz.prog 20 #[v] w' λe w''=>e=.returned (errC adr O)∧Below w'.heap.size w' w'':=λw' hb=>objCheck_any O v w' adr (hO.keep hb) (hT.keep hb) (hS.keep hb);cases hv:valsG O
 ·have h1:errC adr O=errE (adr 0):=by unfold errC;rw[hv];rfl
  have h2:docS O=.tuple #[.int .i64 15,.agg #[.int .i64 0,.int .i64 0]]:=by unfold docS;rw[hv];rfl
  rw[h2];rw[h1]at hC;exact tarnSound_told O v _ 15 0 0 w hO hC (told_plain hS 0 (by omega))
 ·have h1:errC adr O=errS adr (sBad (O.imps.length+O.globs.length) O.globs 0):=by unfold errC;rw[hv];rfl
  rw[h1]at hC;cases hsb:sBad (O.imps.length+O.globs.length) O.globs 0 with
  |none=>
   have h2:docS O=.tuple #[.int .i64 0,.agg #[.int .i64 0,.int .i64 0]]:=by unfold docS;rw[hv,hsb];rfl
   rw[h2];rw[hsb]at hC;exact tarnSound_told O v _ 0 0 0 w hO hC (told_nil w)
  |some r=>
   obtain⟨e,k,i⟩:=r;have he:=sBad_le _ _ hsb;have h2:docS O=.tuple #[.int .i64 (12+(e:Int)),.agg #[.int .i64 (k:Int),.int .i64 (i:Int)]]:=by unfold docS;rw[hv,hsb];rfl
   rw[h2];rw[hsb]at hC;refine tarnSound_told O v _ _ _ _ w hO hC ?_;rw[<-kCode_next he];exact told_fault hS (e+1) (by omega) _ _
theorem errC_ok{adr:Nat->Addr}{O:LObj}(h:okO O=true):errC adr O=.nilIface:=by
 unfold okO at h;rw[Bool.and_eq_true]at h;unfold errC;rw[if_pos h.1];cases hs:sBad (O.imps.length+O.globs.length) O.globs 0 with
 |none=>rfl
 |some r=>rw[hs]at h;simp at h
theorem errC_bad{adr:Nat->Addr}{O:LObj}(h:okO O=false):∃t x,errC adr O=.iface t x:=by
 unfold okO at h;unfold errC;cases hv:valsG O with
 |false=>exact⟨_,_,rfl⟩
 |true=>
  rw[hv]at h;cases hs:sBad (O.imps.length+O.globs.length) O.globs 0 with
  |none=>rw[hs]at h;simp at h
  |some r=>obtain⟨e,k,i⟩:=r;exact⟨_,_,rfl⟩
def errK(adr:Nat->Addr)(i:Nat):Option Nat->Value
 |some k=>errF (adr i) 0 (k:Int)
 |none=>.nilIface
theorem ObjsIn.cells{w:World}{p:Option Addr}{l:List LObj}(h:ObjsIn w p l){k:Nat}(hk:k<l.length):∃b o ip ic gp gc,p=some ⟨b,o,none⟩∧w.cell? ⟨b,o+k*3,none⟩=some (.string l[k].name)∧w.cell? ⟨b,o+k*3+1,none⟩=some (.slice ip l[k].imps.length ic)∧w.cell? ⟨b,o+k*3+2,none⟩=some (.slice gp l[k].globs.length gc)∧ObjAt w (.agg #[.string l[k].name,.slice ip l[k].imps.length ic,.slice gp l[k].globs.length gc]) l[k]:=h k hk
theorem unsound_any(Os:List LObj)(v:Value)(w:World)(adr:Nat->Addr)(h:ObjsAt w v Os)(hT:TabAt w)(hS:SentAt w adr):
 Calls Tryz.prog 22 #[v] w λe w'=>e=.returned (errK adr 0 (fstF (λ_ O=>!okO O) Os 0))∧Below w.heap.size w w':=by
 obtain⟨p,cap,rfl,hs,hI⟩:=h;have HI:Hid (∀w',Below w.heap.size w w'->ObjsIn w' p Os):=λw' hb=>hI.keep hb;have HT:=hid hT;have HS0:=hid hS;unfold short at hs;clear hI hT hS;go_enter Tryz.func22,Tryz.ntmps22;go_wp2;go_loopw [7] (λkv wr=>∃k:Nat,k<=Os.length∧kv=.int .i64 (k:Int)∧Hid (fstF (λ_ O=>!okO O) Os 0=fstF (λ_ O=>!okO O) (Os.drop k) k∧Below w.heap.size w wr)) (λkv _=>Os.length-(intOf kv).toNat)
 case atStart=>exact⟨0,Nat.zero_le _,rfl,rfl,Below.refl _ _⟩
 case round=>
  obtain⟨k,hk,rfl,HS⟩:=hrel;rename World=>wr
  by_cases hlt:k<Os.length
  ·have h0:(0:Int)<=(k:Int):=by omega
   have h1:(k:Int)<(Os.length:Int):=by omega
   have HE:=hid (HS.out.1.trans (fstF_at _ Os hlt));have HB:=hid HS.out.2;obtain⟨b,o,ip,ic,gp,gc,rfl,c0,c1,c2,hO⟩:=(HI.out _ HS.out.2).cells hlt;have hbz:=HB.out.size;have HC:=hid (λob=>objCheck_any Os[k] _ (wr.alloc ob) adr (hO.keep ((Below.refl _ _).alloc (Nat.le_refl _) _)) (HT.out.keep (HB.out.alloc hbz _)) (HS0.out.keep (HB.out.alloc hbz _)));clear hO HS;cases hok:okO Os[k]with
   |true=>
    have HE2:Hid (fstF (λ_ O=>!okO O) Os 0=fstF (λ_ O=>!okO O) (Os.drop (k+1)) (k+1)):=by show _=_;rw[HE.out,hok];rfl
    rw[errC_ok hok]at HC;clear HE hok;go_wp2_with (first
     |(go_at_call 20;refine(HC.out _).mono ?_;rintro e w1 ⟨rfl,hb1⟩;have HB1:=hid ((HB.out.alloc hbz _).trans (hb1.mono (by simp;omega)));clear hb1))
    go_roundw
    case rel=>exact⟨k+1,by omega,by go_num,HE2.out,HB1.out⟩
    case measure=>simp[intOf];omega
   |false=>
    have HE2:Hid (fstF (λ_ O=>!okO O) Os 0=some k):=by show _=_;rw[HE.out,hok];rfl
    obtain⟨et,ex,he⟩:=errC_bad (adr:=adr) hok;rw[he]at HC;clear HE hok he;have HV:=hid (λw1 (hb:Below w.heap.size w w1)=>(HS0.out.keep hb).c 0 (by omega));simp only[errE]at HV;go_wp2_with (first
     |(go_at_call 20;refine(HC.out _).mono ?_;rintro e w1 ⟨rfl,hb1⟩;have HB1:=hid ((HB.out.alloc hbz _).trans (hb1.mono (by simp;omega)));have hcv:w1.cell? ⟨18,0,none⟩=_:=HV.out _ HB1.out;clear hb1)
     |(go_at_call 37;refine(At_any _ _ _ _).mono ?_;rintro e w2 ⟨rfl,rfl⟩))
    go_ret;exact⟨ret_val (by rw[HE2.out];rfl),HB1.out⟩
  ·obtain rfl:k=Os.length:=by omega
   have hge:¬(Os.length:Int)<(Os.length:Int):=by omega
   go_wp2;go_ret;exact⟨ret_val (by rw[HS.out.1,fstF_end _ _ (Nat.le_refl _)];rfl),HS.out.2⟩
def szG(l:List LGlob)(j:Nat):Nat:=((l.take j).map λg=>g.code.length).sum
def szO(Os:List LObj)(k:Nat):Nat:=((Os.take k).map sz1).sum
theorem szG_succ{l:List LGlob}{j:Nat}(hj:j<l.length):szG l (j+1)=szG l j+l[j].code.length:=by
 unfold szG;rw[List.take_succ_eq_append_getElem hj,List.map_append,List.sum_append];simp
theorem szO_succ{Os:List LObj}{k:Nat}(hk:k<Os.length):szO Os (k+1)=szO Os k+sz1 Os[k]:=by
 unfold szO;rw[List.take_succ_eq_append_getElem hk,List.map_append,List.sum_append];simp
theorem szG_all(l:List LGlob):szG l l.length=(l.map λg=>g.code.length).sum:=by unfold szG;rw[List.take_length]
theorem szO_all(Os:List LObj):szO Os Os.length=sz Os:=by unfold szO sz;rw[List.take_length]
def Shrt(Os:List LObj):Prop:=∀O∈Os,∀g∈O.globs,g.code.length<=65536
theorem szG_le{l:List LGlob}(h:∀g∈l,g.code.length<=65536):∀j,j<=l.length->szG l j<=j*65536
 |0,_=>by simp[szG]
 |j+1,hj=>by
  have:=szG_le h j (by omega);have:=h l[j] (List.getElem_mem _);rw[szG_succ (by omega)];omega
theorem szO_le{Os:List LObj}(hF:Few Os)(h:Shrt Os):∀k,k<=Os.length->szO Os k<=k*200000000000000000
 |0,_=>by simp[szO]
 |k+1,hk=>by
  have h1:=szO_le hF h k (by omega);have h2:=szG_le (h Os[k] (List.getElem_mem _)) _ (Nat.le_refl _);rw[szG_all]at h2;have h3:=(hF.g Os[k] (List.getElem_mem _)).1;rw[szO_succ (by omega)];unfold sz1;omega
theorem instructions_any(Os:List LObj)(v:Value)(w:World)(h:ObjsAt w v Os)(hF:Few Os)(hS:Shrt Os):
 Calls Tryz.prog 25 #[v] w λe w'=>e=.returned (.int .i64 (sz Os:Int))∧Below w.heap.size w w':=by
 obtain⟨p,cap,rfl,hs,hI⟩:=h;have HI:Hid (∀w',Below w.heap.size w w'->ObjsIn w' p Os):=λw' hb=>hI.keep hb;have HF:=hid hF;have HH:=hid hS;have hn8:=hF.n;clear hI hS hF hs;go_enter Tryz.func25,Tryz.ntmps25;go_wp2;go_loopw [3,10] (λnv kv wr=>∃k:Nat,k<=Os.length∧nv=.int .i64 (szO Os k:Int)∧kv=.int .i64 (k:Int)∧Hid (Below w.heap.size w wr)) (λ_ kv _=>Os.length-(intOf kv).toNat)
 case atStart=>exact⟨0,Nat.zero_le _,rfl,rfl,Below.refl _ _⟩
 case round=>
  obtain⟨k,hk,rfl,rfl,HS⟩:=hrel;rename World=>wr
  by_cases hlt:k<Os.length
  ·have h0:(0:Int)<=(k:Int):=by omega
   have h1:(k:Int)<(Os.length:Int):=by omega
   obtain⟨b,o,ip,ic,gp,gc,rfl,c0,c1,c2,hO⟩:=(HI.out _ HS.out).cells hlt;obtain⟨gp',gc',e,hgl,hgi⟩:=hO.globs.2.open;cases e;have HGI:=hid hgi;have hbs:=szO_le HF.out HH.out k (by omega);have hgn:=(HF.out.g Os[k] (List.getElem_mem _)).1;have HZ:=hid (szO_succ hlt);obtain⟨m,hm⟩:∃m,szO Os k=m:=⟨_,rfl⟩;rw[hm]at hbs HZ ⊢;have HGL:=hid (HH.out Os[k] (List.getElem_mem _));clear hgi hO hm;go_wp2;go_loopw [3,17] (λnv jv wx=>∃j:Nat,j<=Os[k].globs.length∧nv=.int .i64 ((m+szG Os[k].globs j:Nat):Int)∧jv=.int .i64 (j:Int)∧Hid (Below wr.heap.size wr wx)) (λ_ jv _=>Os[k].globs.length-(intOf jv).toNat)
   case atStart=>exact⟨0,Nat.zero_le _,rfl,rfl,(Below.refl _ _).alloc (Nat.le_refl _) _⟩
   case round=>
    obtain⟨j,hj,rfl,rfl,HX⟩:=hrel;rename World=>wx
    by_cases hjt:j<Os[k].globs.length
    ·have j0:(0:Int)<=(j:Int):=by omega
     have j1:(j:Int)<(Os[k].globs.length:Int):=by omega
     obtain⟨gb,go,cp,cn,cc,rfl,g0,g1,g2,g3,hC,-⟩:=HGI.out _ HX.out j hjt;obtain⟨cp',cc',e,hcl,-⟩:=hC.open;cases e;have hz:=szG_le HGL.out j (by omega);have hz2:=szG_succ hjt;have HZ2:=hid hz2;generalize szG Os[k].globs j=q at*;generalize Os[k].globs[j].code.length=cl at*;generalize Os[k].globs[j].name=gnm at*;generalize Os[k].globs[j].arity=gar at*;generalize Os[k].globs[j].exp=gex at*;clear hz2 hC;go_wp2;go_roundw
     case rel=>exact⟨j+1,by omega,by rw[HZ2.out];go_num,by go_num,HX.out.alloc HX.out.size _⟩
     case measure=>simp[intOf];omega
    ·obtain rfl:j=Os[k].globs.length:=by omega
     have hge:¬(Os[k].globs.length:Int)<(Os[k].globs.length:Int):=by omega
     go_wp2;go_roundw
     case rel=>exact⟨k+1,by omega,by rw[HZ.out,szG_all];rfl,by go_num,HS.out.trans (HX.out.mono HS.out.size)⟩
     case measure=>simp[intOf];omega
  ·obtain rfl:k=Os.length:=by omega
   have hge:¬(Os.length:Int)<(Os.length:Int):=by omega
   go_wp2;go_ret;exact⟨ret_val (by rw[szO_all];rfl),HS.out⟩
end Go.Proofs.YtlccndplhfcknaaGreatDoor
