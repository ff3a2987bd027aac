import Derived.Test.YtcpcplaeaimmpaaGreatDoorJ9J
import Derived.Maps.OwnSet
import Derived.Maps.Views
set_option maxRecDepth 100000
set_option maxHeartbeats 4000000
namespace Go.Proofs.YtcpcplaeaimmpaaGreatDoor
open Go.RowKit Go.Sort
def mIns(x:LIns×Value):List Value:=[.int .i64 x.1.op,.int .i64 x.1.a,x.2]
def mIz:List Value:=[.int .i64 0,.int .i64 0,.slice none 0 0]
def MC(lo:Nat)(w:World)(v:Value)(l:List LIns):Prop:=∃B,∃L:List (LIns×Value),lo<=B∧v=.slice (some ⟨B,0,none⟩) l.length l.length∧L.map (·.1)=l∧FB w B (l.length*3) (rowF 3 mIz (L.map mIns))∧∀x∈L,MA (B+1) w x.2 x.1.alts
theorem MC.keep{lo:Nat}{w w':World}{v:Value}{l:List LIns}(h:MC lo w v l)(hb:Below w.heap.size w w'):MC lo w' v l:=by
 obtain⟨B,L,h1,h2,h3,h4,h5⟩:=h;exact⟨B,L,h1,h2,h3,h4.keep hb,λx hx=>(h5 x hx).keep hb⟩
def NumsAt(w:World)(v:Value)(ns:List Int):Prop:=∃p cap,v=.slice p ns.length cap∧∀i (h:i<ns.length),∃b o,p=some ⟨b,o,none⟩∧w.cell? ⟨b,o+i,none⟩=some (.int .i64 ns[i])
theorem NumsAt.keep{w w':World}{v:Value}{ns:List Int}(h:NumsAt w v ns)(hb:Below w.heap.size w w'):NumsAt w' v ns:=by
 obtain⟨p,cap,e,hc⟩:=h;refine⟨p,cap,e,λi hi=>?_⟩;obtain⟨b,o,e2,h0⟩:=hc i hi;exact⟨b,o,e2,cell_keep hb h0⟩
structure GoodI (n:Nat) (i:LIns):Prop where
 g:i.op=1->0<=i.a∧i.a<(n:Int)
 l:i.alts.length<=65536
 a:∀x∈i.alts,0<=x.tag∧x.tag<256∧0<=x.to∧x.to<65536
def cdI(ns:List Int)(i:LIns):LIns:=if i.op=1 then {i with a:=ns[i.a.toNat]?.getD 0} else i
theorem Tryz.mInsI:(Tryz.prog.info? 326).map (λi=>(i.zero,i.size,i.bytes))=some (some (.agg #[.int .i64 0,.int .i64 0,.slice none 0 0]),3,40):=by kernel_rfl
theorem mIns_make(n:Nat)(hn:n<=65536)(w:World):(Instr.makeSlice 155 (.int .i64 (n:Int)) (.int .i64 (n:Int))).run Tryz.prog w=.ok (.slice (some ⟨w.heap.size,0,none⟩) n n) (w.alloc (.cells (madeCells #[.int .i64 0,.int .i64 0,.slice none 0 0] (n*3)) 326)):=by
 obtain⟨i,hi,hii⟩:=Option.map_eq_some_iff.1 Tryz.mInsI;simp only[Prod.mk.injEq]at hii;obtain⟨hz0,hz1,hz2⟩:=hii;rw[run_make (P:=Tryz.prog) w 155 326 i _ Tryz.underlying155 hi hz0 .i64 .i64 n n (by omega) (by omega) (by rw[hz2];omega) (by omega),hz1];simp[Value.cells]
structure CoS (code:List LIns) (ns:List Int) (w wr:World) (k:Nat):Prop where
 low:Below w.heap.size w wr
 l:∃L:List (LIns×Value),L.map (·.1)=(code.take k).map (cdI ns)∧FB wr w.heap.size (code.length*3) (rowF 3 mIz (L.map mIns))∧∀x∈L,MA (w.heap.size+1) wr x.2 x.1.alts
theorem CoS.next{code:List LIns}{ns:List Int}{w wr w5:World}{k:Nat}(h:CoS code ns w wr k)(hk:k<code.length)(hb:Below wr.heap.size wr w5){av:Value}(hm:MA (w.heap.size+1) w5 av code[k].alts){op a:Int}(he:cdI ns code[k]=⟨op,a,code[k].alts⟩):
 (∃v0 v1 v2,w5.cell? ⟨w.heap.size,k*3,none⟩=some v0∧w5.cell? ⟨w.heap.size,k*3+1,none⟩=some v1∧w5.cell? ⟨w.heap.size,k*3+2,none⟩=some v2)∧(∀j,w5.frozen? ⟨w.heap.size,j,none⟩=false)∧CoS code ns w (((w5.setCell ⟨w.heap.size,k*3,none⟩ (.int .i64 op)).setCell ⟨w.heap.size,k*3+1,none⟩ (.int .i64 a)).setCell ⟨w.heap.size,k*3+2,none⟩ av) (k+1):=by
 obtain⟨hl,L,h1,h2,h3⟩:=h;have hL:L.length=k:=by have:=congrArg List.length h1;simp at this;omega
 have h2':=h2.keep hb;refine⟨⟨_,_,_,h2'.c _ (by omega),h2'.c _ (by omega),h2'.c _ (by omega)⟩,h2'.fz,?_⟩;have hz:=hl.size;refine⟨(((hl.trans (hb.mono hz)).setCell (Nat.le_refl _) _).setCell (Nat.le_refl _) _).setCell (Nat.le_refl _) _,L++[(⟨op,a,code[k].alts⟩,av)],?_,?_,λx hx=>?_⟩
 ·rw[List.map_append,List.take_succ_eq_append_getElem hk,List.map_append,h1];simp[he]
 ·rw[List.map_append];exact h2'.put3 (by simp[hL]) hk _ _ _
 ·refine((?_:MA _ w5 x.2 x.1.alts).set (Nat.lt_succ_self _) _|>.set (Nat.lt_succ_self _) _).set (Nat.lt_succ_self _) _;rcases List.mem_append.1 hx with hx|hx
  ·exact(h3 x hx).keep hb
  ·obtain rfl:=List.mem_singleton.1 hx;exact hm
theorem codeOf_any(code:List LIns)(cv:Value)(ns:List Int)(nv:Value)(w:World)(h:CodeAt w cv code)(hN:NumsAt w nv ns)(hl:code.length<=65536)(hg:∀i∈code,GoodI ns.length i):
 Calls Tryz.prog 136 #[cv,nv] w λe w'=>Below w.heap.size w w'∧∃B,e=.returned (.slice (some ⟨B,0,none⟩) code.length code.length)∧MC w.heap.size w' (.slice (some ⟨B,0,none⟩) code.length code.length) (code.map (cdI ns)):=by
 obtain⟨p,cap,rfl,hs,hI⟩:=h.open;obtain⟨np,nc,rfl,hnc⟩:=id hN;have HI:=hid hI;have HN:=hid hN;have HG:=hid (λk (hk:k<code.length)=>hg code[k] (List.getElem_mem _));have hmk:=mIns_make code.length hl;clear h hI hg hN hnc;go_enter Tryz.func136,Tryz.ntmps136;go_wp2;go_loopw [13] (λkv wr=>∃k:Nat,k<=code.length∧kv=.int .i64 (k:Int)∧Hid (CoS code ns w wr k)) (λkv _=>code.length-(intOf kv).toNat)
 case atStart=>exact⟨0,Nat.zero_le _,rfl,(Below.refl _ _).alloc (Nat.le_refl _) _,[],rfl,FB.made w _ _ _ (by simp),λx hx=>by cases hx⟩
 case round=>
  obtain⟨k,hk,rfl,HS⟩:=hrel;rename World=>wr
  by_cases hlt:k<code.length
  ·have h0:(0:Int)<=(k:Int):=by omega
   have h1:(k:Int)<(code.length:Int):=by omega
   obtain⟨b,o,ap,an,ac,rfl,c0,c1,c2,hal⟩:=HI.out _ HS.out.low k hlt;obtain⟨g1,g2,g3⟩:=HG.out k hlt;have hz:=HS.out.low.size;have HAL:=hid (λX (hb:Below wr.heap.size wr X)=>(altsOf_any code[k].alts _ X (hal.keep hb) g2 g3));have HNX:=hid (λw5 (hb:Below wr.heap.size wr w5) (av:Value) (hm:MA (w.heap.size+1) w5 av code[k].alts) op a he=>HS.out.next hlt hb hm (op:=op) (a:=a) he);obtain⟨ap',ac',e,-,-⟩:=hal.open;have han:an=code[k].alts.length:=by injection e
   have HLW:=hid HS.out.low;have hbl:w.heap.size+1<=wr.heap.size:=by
    obtain⟨L,-,h2,-⟩:=HS.out.l;have:=h2.lt;omega
   clear hal HS e;obtain⟨⟨op,a,al⟩,hx⟩:∃x,code[k]=x:=⟨_,rfl⟩;rw[hx]at c0 c1 g1 HAL HNX han;dsimp only at c0 c1 g1 HAL HNX han;clear hx g2 g3;subst han;go_upto_region 4 with fail
   go_cut [7,6] (λq kq wx=>q=.pointer (some ⟨wr.heap.size,0,none⟩)∧kq=.int .i64 (k:Int)∧wx=wr.alloc (.cells #[.int .i64 op,.int .i64 a,.slice ap al.length ac] 89))
   case first=>
    go_wp2;go_meet
    exact⟨rfl,rfl,rfl⟩
   case rest=>
   obtain⟨rfl,rfl,rfl⟩:=hcut;go_step
   go_step
   go_cut [] (λwx=>Hid (C3 wx wr.heap.size (.int .i64 op) (.int .i64 (cdI ns ⟨op,a,al⟩).a) (.slice ap al.length ac)∧Below wr.heap.size wr wx))
   case first=>
    by_cases hop:op=1
    ·subst hop;obtain⟨ha0,ham⟩:=g1 rfl;obtain⟨m,rfl⟩:∃m:Nat,a=(m:Int):=⟨a.toNat,by omega⟩;have hm:m<ns.length:=by omega
     obtain⟨p2,c2',e,hnc⟩:=HN.out.keep HLW.out;cases e;obtain⟨nb,no,rfl,n0⟩:=hnc m hm;have n0a:=λob=>alloc_old wr ob _ _ _ n0;have HE:Hid ((cdI ns ⟨1,(m:Int),al⟩).a=ns[m]):=by
      show _=_;unfold cdI;simp[hm]
     clear hnc;go_wp2;go_meet
     rw[HE.out];exact⟨C3.new wr _ _ _ _,(Below.refl _ _).alloc (Nat.le_refl _) _⟩
    ·have HE:Hid ((cdI ns ⟨op,a,al⟩).a=a):=by
      show _=_;unfold cdI;simp[hop]
     go_wp2;go_meet
     rw[HE.out];exact⟨C3.new wr _ _ _ _,(Below.refl _ _).alloc (Nat.le_refl _) _⟩
   case rest=>
    rename World=>wx
    obtain⟨s0,s1,s2,-⟩:=hcut.out.1;have HBX:=hid hcut.out.2;have HCD:Hid (cdI ns ⟨op,a,al⟩=⟨op,(cdI ns ⟨op,a,al⟩).a,al⟩):=by
     show _=_;unfold cdI;split<;>rfl
    generalize (cdI ns ⟨op,a,al⟩).a=a' at*;have HA2:=hid (HAL.out wx.drew HBX.out.drew);have hzx:=HBX.out.size;have t0:wx.drew.cell? ⟨wr.heap.size,0,none⟩=_:=s0;have t1:wx.drew.cell? ⟨wr.heap.size,1,none⟩=_:=s1;have t2:wx.drew.cell? ⟨wr.heap.size,2,none⟩=_:=s2;have HST:=hid (λw5 (hb5:Below wx.drew.heap.size wx.drew w5) (B5:Nat) (hm5:MA wx.drew.heap.size w5 (.slice (some ⟨B5,0,none⟩) al.length al.length) al)=>HNX.out w5 (HBX.out.drew.trans (hb5.mono hzx)) _ (hm5.low (Nat.le_trans hbl hzx)) op a' HCD.out);clear hcut c0 c1 c2 HNX HAL;go_upto_region 7 with fail
    go_region_held_law (λw'=>w'.cell? ⟨wr.heap.size,0,none⟩=some (.int .i64 op)∧w'.cell? ⟨wr.heap.size,1,none⟩=some (.int .i64 a')∧w'.cell? ⟨wr.heap.size,2,none⟩=some (.slice ap al.length ac)) (refine⟨?_,?_,?_⟩<;>(first|assumption|(rw[World.cell?_setCell_far _ _ _ _ (by simp;omega),World.cell?_setCell_far _ _ _ _ (by simp;omega),World.cell?_setCell_far _ _ _ _ (by simp;omega)];assumption)))
     (first
      |(go_at_call 167;refine HA2.out.mono ?_;rintro e w5 ⟨hb5,B5,rfl,hm5⟩;have q0:=cell_keep hb5 t0;have q1:=cell_keep hb5 t1;have q2:=cell_keep hb5 t2;obtain⟨⟨v0,v1,v2,e0,e1,e2⟩,ef,hco⟩:=HST.out w5 hb5 B5 hm5;have ef0:=ef (k*3);have ef1:=ef (k*3+1);have ef2:=ef (k*3+2);have HCO:=hid hco;clear hb5 hm5 ef hco))
    all_goals(try go_wp2)
    all_goals go_roundw
    all_goals first
     |exact⟨k+1,by omega,by go_num,HCO.out⟩
     |(simp[intOf];omega)
  ·obtain rfl:k=code.length:=by omega
   have hge:¬(code.length:Int)<(code.length:Int):=by omega
   go_wp2;go_ret;obtain⟨hlw,L,h1,h2,h3⟩:=HS.out;rw[List.take_length]at h1;refine⟨hlw,_,rfl,_,L,Nat.le_refl _,by rw[List.length_map],h1,by rw[List.length_map];exact h2,h3⟩
def xmR:Value->Option (DataW Unit×List MemPlace)
 |.agg cs=>match cs.toList with
  |[.int .i64 a,.int .i64 b]=>some (.agg [.lit (.int .i64 a),.lit (.int .i64 b)],[])
  |_=>none
 |_=>none
theorem xmR_inv{v:Value}{a b:Int}{ps:List MemPlace}(h:xmR v=some (.agg [.lit (.int .i64 a),.lit (.int .i64 b)],ps)):v=.agg #[.int .i64 a,.int .i64 b]:=by
 unfold xmR at h;split at h
 ·split at h
  ·rename_i cs x y e
   simp at h;obtain⟨⟨rfl,rfl⟩,-⟩:=h;congr 1
   exact Array.toList_inj.1 e
  ·cases h
 ·cases h
def xmP:Option (Nat×Int)->Int×Int
 |some (n,a)=>((n:Int),a)
 |none=>(0,0)
def xmV(o:Option (Nat×Int)):Value:=.agg #[.int .i64 (xmP o).1,.int .i64 (xmP o).2]
def xmD(o:Option (Nat×Int)):DataW Unit:=.agg [.lit (.int .i64 (xmP o).1),.lit (.int .i64 (xmP o).2)]
def keyL(t:ByteArray):Lit:=.string t.data.toList
theorem keyL_inj{s t:ByteArray}(h:keyL s=keyL t):s=t:=Go.WideShapes.bytes_inj (by simpa[keyL]using h)
def XM(w:World)(b n:Nat)(f:ByteArray->Option (Nat×Int)):Prop:=∃D,w.ownsMap Tryz.prog 9 xmR b n D∧∀t:ByteArray,Maps.has D (keyL t)=(f t).isSome∧D.atKey (keyL t) (xmD none)=xmD (f t)
theorem Tryz.mapT:Tryz.prog.underlying 231=some (.map 9 236):=by kernel_rfl
theorem Tryz.zeroX(w:World):(zeroValue 236).run Tryz.prog w=.ok (xmV none) w:=by kernel_rfl
theorem XM.new(w:World):XM (w.alloc (.map #[] 0)) w.heap.size 0 λ_=>none:=⟨_,World.ownsMap_made w _ _ _,λ_=>⟨rfl,rfl⟩⟩
theorem XM.keep{w w':World}{b n:Nat}{f:ByteArray->Option (Nat×Int)}(h:XM w b n f)(hb:Below w.heap.size w w'):XM w' b n f:=by
 obtain⟨D,hD,hf⟩:=h;have hl:=hD.lt;obtain⟨es,clock,e,r⟩:=hD;exact⟨D,⟨es,clock,by rw[hb.block b hl];exact e,r⟩,hf⟩
theorem XM.congr{w:World}{b n:Nat}{f g:ByteArray->Option (Nat×Int)}(h:XM w b n f)(e:∀t,f t=g t):XM w b n g:=by
 obtain⟨D,hD,hf⟩:=h;exact⟨D,hD,λt=>by rw[<-e];exact hf t⟩
theorem XM.look{w:World}{b n:Nat}{f:ByteArray->Option (Nat×Int)}(h:XM w b n f)(t:ByteArray)(ht:t.size<=maxLen):(Instr.lookup 231 (.map (some b)) (.string t) true).run Tryz.prog w=.ok (.tuple #[xmV (f t),.bool (f t).isSome]) w:=by
 obtain⟨D,hD,hf⟩:=h;obtain⟨v,ps,hrun,hv⟩:=hD.look_ok (Maps.string_keyed Tryz.underlying9) Tryz.mapT (Tryz.zeroX w) (zd:=xmD none) (zp:=[]) rfl (Go.WideMaps.keyOf_string_mk Tryz.underlying9 ht);rw[hrun];have:=hf t;unfold keyL at this;rw[this.1,xmR_inv (hv.trans (by rw[this.2];rfl))];rfl
theorem XM.look1{w:World}{b n:Nat}{f:ByteArray->Option (Nat×Int)}(h:XM w b n f)(t:ByteArray)(ht:t.size<=maxLen):(Instr.lookup 231 (.map (some b)) (.string t) false).run Tryz.prog w=.ok (xmV (f t)) w:=by
 obtain⟨D,hD,hf⟩:=h;obtain⟨v,ps,hrun,hv⟩:=hD.lookup (Maps.string_keyed Tryz.underlying9) Tryz.mapT (Tryz.zeroX w) (zd:=xmD none) (zp:=[]) rfl (Go.WideMaps.keyOf_string_mk Tryz.underlying9 ht);rw[hrun];have:=hf t;unfold keyL at this;rw[xmR_inv (hv.trans (by rw[this.2];rfl))];rfl
def exK(Os:List LObj)(k:Nat)(t:ByteArray):Option (Nat×Int):=(exO t (Os.take k) 0 0).map λx=>(x.1,x.2.2)
def exKJ(Os:List LObj)(k:Nat)(gl:List LGlob)(j:Nat)(t:ByteArray):Option (Nat×Int):=match exK Os k t with
 |some x=>some x
 |none=>exG t (gl.take j) (gBase Os k)
theorem exG_app(t:ByteArray):∀(A B:List LGlob) (n:Nat),exG t (A++B) n=match exG t A n with|some x=>some x|none=>exG t B (n+A.length)
 |[],B,n=>rfl
 |g::A,B,n=>by
  rw[List.cons_append,exG,exG];split
  ·rfl
  ·rw[exG_app t A B,List.length_cons,show n+1+A.length=n+(A.length+1) by omega]
theorem exO_app(t:ByteArray):∀(A B:List LObj) (k n:Nat),exO t (A++B) k n=match exO t A k n with|some x=>some x|none=>exO t B (k+A.length) (n+(A.map λO=>O.globs.length).sum)
 |[],B,k,n=>rfl
 |O::A,B,k,n=>by
  rw[List.cons_append,exO,exO];split
  ·rfl
  ·rw[exO_app t A B,List.length_cons,List.map_cons,List.sum_cons,show k+1+A.length=k+(A.length+1) by omega,Nat.add_assoc]
theorem exKJ_succ{Os:List LObj}{k:Nat}{gl:List LGlob}{j:Nat}(t:ByteArray)(hj:j<gl.length):exKJ Os k gl (j+1) t=match exKJ Os k gl j t with|some x=>some x|none=>if gl[j].exp && decide (gl[j].name=t) then some (gBase Os k+j,gl[j].arity) else none:=by
 unfold exKJ;cases exK Os k t with
 |some x=>rfl
 |none=>
  simp only;rw[List.take_succ_eq_append_getElem hj,exG_app,List.length_take,Nat.min_eq_left (by omega)];cases exG t (gl.take j) (gBase Os k) with
  |some x=>rfl
  |none=>simp only[exG]
theorem exKJ_end{Os:List LObj}{k:Nat}(hk:k<Os.length)(t:ByteArray):exKJ Os k Os[k].globs Os[k].globs.length t=exK Os (k+1) t:=by
 unfold exKJ;rw[List.take_length];have e:exK Os (k+1) t=(exO t (Os.take k++[Os[k]]) 0 0).map λx=>(x.1,x.2.2):=by unfold exK;rw[List.take_succ_eq_append_getElem hk]
 rw[e,exO_app];unfold exK;cases exO t (Os.take k) 0 0 with
 |some x=>rfl
 |none=>
  simp only[Option.map_none,exO,Nat.zero_add];unfold gBase;cases exG t Os[k].globs ((Os.take k).map λO=>O.globs.length).sum with
  |some x=>rfl
  |none=>rfl
theorem exK_all(Os:List LObj)(t:ByteArray):exK Os Os.length t=(expo Os t).map λx=>(x.1,x.2.2):=by unfold exK expo;rw[List.take_length]
def dpJ(Os:List LObj)(k:Nat)(gl:List LGlob)(j:Nat)(g:LGlob):Bool:=g.exp && (exKJ Os k gl j g.name).isSome
def dpB(Os:List LObj)(k:Nat)(O:LObj):Bool:=(fstF (dpJ Os k O.globs) O.globs 0).isSome
theorem goodGs_of(imps:List LImp):∀(l:List LGlob) (last:ByteArray),globsFrom imps last l=true->GoodGs l
 |[],_,_=>λk hk=>absurd hk (by simp)
 |g::r,last,h=>by
  simp only[globsFrom,Bool.and_eq_true]at h;obtain⟨⟨⟨⟨⟨_,_⟩,_⟩,h4⟩,h5⟩,h6⟩:=h;intro k hk;cases k with
  |zero=>
   refine⟨h5,?_⟩;simp[arB]at h4;exact h4
  |succ j=>exact goodGs_of imps r _ h6 j (by simpa using hk)
noncomputable def docS(O:LObj):Value:=if valsG O then resS (sBad (O.imps.length+O.globs.length) O.globs 0) else .tuple #[.int .i64 15,.agg #[.int .i64 0,.int .i64 0]]
def errS(adr:Nat->Addr):Option (Nat×Nat×Nat)->Value
 |some (e,k,i)=>errF (adr (e+1)) (k:Int) (i:Int)
 |none=>.nilIface
theorem gBad_le{code:List LIns}{d0 most:Int}{e i:Nat}(h:gBad code d0 most=some (e,i)):e<=2:=by
 unfold gBad at h;split at h
 ·simp at h;omega
 ·split at h
  ·simp at h;omega
  ·split at h
   ·simp at h;omega
   ·split at h
    ·simp at h;omega
    ·cases h
def Looks(code:List LIns)(d0 most:Int)(r:Option (Nat×Nat)):Prop:=
 (∃k,firstBad (badIdx most) code=some k∧r=some (0,k))∨
 (firstBad (badIdx most) code=none∧((∃k:Nat,wildJ code=.tuple #[.int .i64 (k:Int),.bool true]∧r=some (1,k))∨
  (∃k:Int,wildJ code=.tuple #[.int .i64 k,.bool false]∧Fine code∧((∃k,firstBad (badD (depOf code d0)) code=some k∧r=some (2,k))∨(firstBad (badD (depOf code d0)) code=none∧r=none)))))
theorem looks_of{code:List LIns}(d0 most:Int)(hg:codeG code=true):Looks code d0 most (gBad code d0 most):=by
 cases h1:firstBad (badIdx most) code with
 |some k=>exact Or.inl ⟨k,h1,gBad_idx h1⟩
 |none=>
  refine Or.inr ⟨h1,?_⟩;have hw:=wildJ_eq hg;by_cases h0:code.length=0
  ·rw[if_pos h0]at hw;exact Or.inl ⟨0,hw,gBad_empty h1 h0⟩
  ·rw[if_neg h0]at hw;cases h2:firstBad (badNext code.length) code with
   |some k=>
    rw[h2]at hw;exact Or.inl ⟨k,hw,gBad_jump h1 h0 h2⟩
   |none=>
    rw[h2]at hw;refine Or.inr ⟨_,hw,(fine_of hg h0 h2).fine,?_⟩;cases h3:firstBad (badD (depOf code d0)) code with
    |some k=>exact Or.inl ⟨k,rfl,by unfold gBad;rw[h1];simp only;rw[if_neg h0,h2];simp only;rw[h3]⟩
    |none=>exact Or.inr ⟨rfl,by unfold gBad;rw[h1];simp only;rw[if_neg h0,h2];simp only;rw[h3]⟩
theorem objSound_any(adr:Nat->Addr)(nm:ByteArray)(iv gv:Value)(imps:List LImp)(globs:List LGlob)(w:World)(hI:ImpsAt w iv imps)(hG:GlobsAt w gv globs)(hg:GoodGs globs)(hT:TabAt w)(hS:SentAt w adr):
 Calls Tryz.prog 27 #[.agg #[.string nm,iv,gv]] w λe w'=>e=.returned (errS adr (sBad (imps.length+globs.length) globs 0))∧Below w.heap.size w w':=by
 obtain⟨ip,ic,rfl,hi1,-⟩:=hI.open;obtain⟨p,cap,rfl,hs1,hcell⟩:=hG.open;have HC:Hid (∀w',Below w.heap.size w w'->GlobsIn w' p globs):=hcell;have HG:Hid (GoodGs globs):=hg;have HT:Hid (TabAt w):=hT;have HS:Hid (SentAt w adr):=hS;clear hcell hG hg hI hT hS;go_enter Tryz.func27,Tryz.ntmps27;go_wp2;go_loopw [22] (λi wr=>∃k:Nat,k<=globs.length∧i=.int .i64 k∧Hid (sBad ((imps.length:Int)+(globs.length:Int)) globs 0=sBad ((imps.length:Int)+(globs.length:Int)) (globs.drop k) k)∧Hid (Below w.heap.size w wr)) (λi _=>globs.length-(intOf i).toNat)
 case atStart=>exact⟨0,Nat.zero_le _,rfl,rfl,(Below.refl _ _).alloc (Nat.le_refl _) _⟩
 case round=>
  obtain⟨k,hk,rfl,ha,hb⟩:=hrel;by_cases hlt:k<globs.length
  ·obtain⟨b,o,cp,cn,cc,rfl,c0,c1,c2,c3,hC,hsz⟩:=HC.out _ hb.out k hlt;obtain⟨g1,g2,g3⟩:=HG.out k hlt;have hL:=looks_of (globs[k].arity+1) ((imps.length:Int)+(globs.length:Int)) g1;have HSS:Hid (∀e i,gBad globs[k].code (globs[k].arity+1) ((imps.length:Int)+(globs.length:Int))=some (e,i)->sBad ((imps.length:Int)+(globs.length:Int)) globs 0=some (e,k,i)):=λe i h=>by rw[ha.out];exact sBad_some hlt h
   have HSN:Hid (gBad globs[k].code (globs[k].arity+1) ((imps.length:Int)+(globs.length:Int))=none->sBad ((imps.length:Int)+(globs.length:Int)) globs 0=sBad ((imps.length:Int)+(globs.length:Int)) (globs.drop (k+1)) (k+1)):=λh=>by rw[ha.out];exact sBad_next hlt h
   have HWI:Hid (∀w',Below wr.heap.size wr w'->Calls Tryz.prog 46 #[.slice cp cn cc,.int .i64 ((imps.length:Int)+(globs.length:Int))] w' λe w''=>e=.returned (pairOf (firstBad (badIdx ((imps.length:Int)+(globs.length:Int))) globs[k].code))∧Below w'.heap.size w' w''):=λw' hbw=>wildIndex_any _ _ _ w' (hC.keep hbw);have HWJ:Hid (∀w',Below wr.heap.size wr w'->Calls Tryz.prog 48 #[.slice cp cn cc] w' λe w''=>e=.returned (wildJ globs[k].code)∧Below w'.heap.size w' w''):=λw' hbw=>wildJump_any _ _ w' (hC.keep hbw);have HWD:Hid (Fine globs[k].code->∀w',Below wr.heap.size wr w'->Calls Tryz.prog 49 #[.slice cp cn cc,.int .i64 (globs[k].arity+1)] w' λe w''=>e=.returned (pairOf (firstBad (badD (depOf globs[k].code (globs[k].arity+1))) globs[k].code))∧Below w'.heap.size w' w''):=λhf w' hbw=>(wrongDepth_any _ _ _ w' (hC.keep hbw) (HT.out.keep (hb.out.trans (hbw.mono hb.out.size))) hf (by omega) (by omega)).mono λ_ _ ⟨⟨dep,hd,he⟩,h2⟩=>⟨by rw[depOf_eq hd];exact he,h2⟩;have hbs:=hb.out.size;rename World=>W2
   have HB0:Hid (∀ob,Below W2.heap.size W2 (W2.alloc ob)):=λob=>(Below.refl _ _).alloc (Nat.le_refl _) _;have HCL:Hid (∀w',Below W2.heap.size W2 w'->w'.cell? ⟨11,0,none⟩=some (.iface 447 (.pointer (some (adr 1))))∧w'.cell? ⟨12,0,none⟩=some (.iface 447 (.pointer (some (adr 2))))∧w'.cell? ⟨13,0,none⟩=some (.iface 447 (.pointer (some (adr 3))))):=λw' hbw=>by
    have h:=HS.out.keep (hb.out.trans (hbw.mono hbs));exact⟨h.c 1 (by omega),h.c 2 (by omega),h.c 3 (by omega)⟩
   clear hC g1 ha;generalize gBad globs[k].code (globs[k].arity+1) ((imps.length:Int)+(globs.length:Int))=r at*;generalize globs[k].code=code at*;generalize globs[k].name=gn at*;generalize globs[k].arity=ar at*;generalize globs[k].exp=gex at*;rcases hL with⟨j,h1,rfl⟩|⟨h1,⟨j,h2,rfl⟩|⟨j,h2,hf,h3⟩⟩
   ·have HR:=hid (HSS.out _ _ rfl);rw[h1]at HWI;go_wp2_with (first|(go_at_call 46;refine(HWI.out _ (HB0.out _)).mono ?_;rintro e w1 ⟨rfl,hb1⟩;have hb2:Below W2.heap.size W2 w1:=(HB0.out _).trans (hb1.mono (by simp));have y3:=cell_keep hb1 (alloc_cell W2 _ _ 3 _ rfl);have y1:=cell_keep hb1 (alloc_cell W2 _ _ 1 _ rfl);obtain⟨s1,s2,s3⟩:=HCL.out _ hb2;simp only[pairOf])|(go_at_call 47;refine(In_any _ _ _ _ _).mono ?_;rintro e w7 ⟨rfl,hb7⟩))
    go_ret;exact⟨ret_val (by rw[HR.out];rfl),(hb.out.trans (hb2.mono hbs)).trans (hb7.mono (by have:=hb2.size;omega))⟩
   ·have HR:=hid (HSS.out _ _ rfl);rw[h1]at HWI;rw[h2]at HWJ;go_wp2_with (first|(go_at_call 46;refine(HWI.out _ (HB0.out _)).mono ?_;rintro e w1 ⟨rfl,hb1⟩;have hb2:Below W2.heap.size W2 w1:=(HB0.out _).trans (hb1.mono (by simp));have y3:=cell_keep hb1 (alloc_cell W2 _ _ 3 _ rfl);have y1:=cell_keep hb1 (alloc_cell W2 _ _ 1 _ rfl);obtain⟨s1,s2,s3⟩:=HCL.out _ hb2;simp only[pairOf])|(go_at_call 48;refine(HWJ.out _ hb2).mono ?_;rintro e w3 ⟨rfl,hb3⟩;have hb4:Below W2.heap.size W2 w3:=hb2.trans (hb3.mono hb2.size);have y3:=cell_keep hb3 y3;have y1:=cell_keep hb3 y1;obtain⟨s1,s2,s3⟩:=HCL.out _ hb4)|(go_at_call 47;refine(In_any _ _ _ _ _).mono ?_;rintro e w7 ⟨rfl,hb7⟩))
    go_ret;exact⟨ret_val (by rw[HR.out];rfl),(hb.out.trans (hb4.mono hbs)).trans (hb7.mono (by have:=hb4.size;omega))⟩
   ·have HWD2:=hid (HWD.out hf);rw[h1]at HWI;rw[h2]at HWJ;clear HWD hf h1 h2;rcases h3 with⟨j3,h3,rfl⟩|⟨h3,rfl⟩
    ·have HR:=hid (HSS.out _ _ rfl);rw[h3]at HWD2;go_wp2_with (first|(go_at_call 46;refine(HWI.out _ (HB0.out _)).mono ?_;rintro e w1 ⟨rfl,hb1⟩;have hb2:Below W2.heap.size W2 w1:=(HB0.out _).trans (hb1.mono (by simp));have y3:=cell_keep hb1 (alloc_cell W2 _ _ 3 _ rfl);have y1:=cell_keep hb1 (alloc_cell W2 _ _ 1 _ rfl);obtain⟨s1,s2,s3⟩:=HCL.out _ hb2;simp only[pairOf])|(go_at_call 48;refine(HWJ.out _ hb2).mono ?_;rintro e w3 ⟨rfl,hb3⟩;have hb4:Below W2.heap.size W2 w3:=hb2.trans (hb3.mono hb2.size);have y3:=cell_keep hb3 y3;have y1:=cell_keep hb3 y1;obtain⟨s1,s2,s3⟩:=HCL.out _ hb4)|(go_at_call 49;refine(HWD2.out _ hb4).mono ?_;rintro e w5 ⟨rfl,hb5⟩;have hb6:Below W2.heap.size W2 w5:=hb4.trans (hb5.mono hb4.size);obtain⟨s1,s2,s3⟩:=HCL.out _ hb6;simp only[pairOf])|(go_at_call 47;refine(In_any _ _ _ _ _).mono ?_;rintro e w7 ⟨rfl,hb7⟩))
     go_ret;exact⟨ret_val (by rw[HR.out];rfl),(hb.out.trans (hb6.mono hbs)).trans (hb7.mono (by have:=hb6.size;omega))⟩
    ·have HR:=hid (HSN.out rfl);rw[h3]at HWD2;go_wp2_with (first|(go_at_call 46;refine(HWI.out _ (HB0.out _)).mono ?_;rintro e w1 ⟨rfl,hb1⟩;have hb2:Below W2.heap.size W2 w1:=(HB0.out _).trans (hb1.mono (by simp));have y3:=cell_keep hb1 (alloc_cell W2 _ _ 3 _ rfl);have y1:=cell_keep hb1 (alloc_cell W2 _ _ 1 _ rfl);obtain⟨s1,s2,s3⟩:=HCL.out _ hb2;simp only[pairOf])|(go_at_call 48;refine(HWJ.out _ hb2).mono ?_;rintro e w3 ⟨rfl,hb3⟩;have hb4:Below W2.heap.size W2 w3:=hb2.trans (hb3.mono hb2.size);have y3:=cell_keep hb3 y3;have y1:=cell_keep hb3 y1;obtain⟨s1,s2,s3⟩:=HCL.out _ hb4)|(go_at_call 49;refine(HWD2.out _ hb4).mono ?_;rintro e w5 ⟨rfl,hb5⟩;have hb6:Below W2.heap.size W2 w5:=hb4.trans (hb5.mono hb4.size);obtain⟨s1,s2,s3⟩:=HCL.out _ hb6;simp only[pairOf]))
     exact⟨⟨k+1,by omega,by go_num,HR,hb.out.trans (hb6.mono hbs)⟩,by simp[intOf];omega⟩
  ·go_wp2;go_ret;exact⟨ret_val (by rw[ha.out,List.drop_of_length_le (by omega)];rfl),hb.out⟩
theorem sBad_le{most:Int}{e k i:Nat}:∀(l:List LGlob) (j:Nat),sBad most l j=some (e,k,i)->e<=2
 |[],_,h=>by simp[sBad]at h
 |g::r,j,h=>by
  rw[sBad]at h;split at h
  ·rename_i e' i' hb
   have:=gBad_le hb;simp at h;omega
  ·exact sBad_le r (j+1) h
theorem kCode_next{e:Nat}(h:e<=2):kCode (e+1)=12+(e:Int):=by
 rcases(show e=0∨e=1∨e=2 by omega) with rfl|rfl|rfl<;>rfl
structure Told (w:World) (v:Value) (c x y:Int):Prop where
 kind:∀w',Below w.heap.size w w'->Calls Tryz.prog 14 #[v] w' λe w''=>e=.returned (.int .i64 c)∧Below w'.heap.size w' w''
 place:∀w',Below w.heap.size w w'->Calls Tryz.prog 16 #[v] w' λe w''=>e=.returned (.agg #[.int .i64 x,.int .i64 y])∧Below w'.heap.size w' w''
theorem told_nil(w:World):Told w .nilIface 0 0 0:=⟨λw' _=>(kind_nil w').mono λ_ _ ⟨h1,h2⟩=>⟨h1,by rw[h2];exact Below.refl _ _⟩,λw' _=>place_nil w'⟩
theorem told_plain{w:World}{adr:Nat->Addr}(hS:SentAt w adr)(i:Nat)(hi:0<=i∧i<19):Told w (errE (adr i)) (kCode i) 0 0:=⟨λ_ hb=>kind_plain (hS.keep hb) i hi,λ_ hb=>place_plain (hS.keep hb) (adr i)⟩
theorem told_fault{w:World}{adr:Nat->Addr}(hS:SentAt w adr)(i:Nat)(hi:0<=i∧i<19)(k n:Int):Told w (errF (adr i) k n) (kCode i) k n:=⟨λ_ hb=>kind_fault (hS.keep hb) i hi k n,λ_ hb=>place_fault (hS.keep hb) (adr i) k n⟩
noncomputable def errC(adr:Nat->Addr)(O:LObj):Value:=if valsG O then errS adr (sBad (O.imps.length+O.globs.length) O.globs 0) else errE (adr 0)
theorem objCheck_any(O:LObj)(v:Value)(w:World)(adr:Nat->Addr)(hO:ObjAt w v O)(hT:TabAt w)(hS:SentAt w adr):
 Calls Tryz.prog 15 #[v] w λe w'=>e=.returned (errC adr O)∧Below w.heap.size w w':=by
 have HVA:Hid (∀w',Below w.heap.size w w'->Calls Tryz.prog 22 #[v] w' λe w''=>e=.returned (errV (valsG O) (errE (adr 0)))∧Below w'.heap.size w' w''):=λw' hb=>Values_any O v (errE (adr 0)) w' (hO.keep hb) (hT.keep hb) ((hS.keep hb).c 0 (by omega)) ⟨_,_,rfl⟩;obtain⟨iv,gv,rfl,hsz,hI,hG⟩:=id hO;obtain⟨ip,ic,rfl,hi1,-⟩:=hI.open;obtain⟨p,cap,rfl,hs1,-⟩:=hG.open;have HB0:Hid (∀o,Below w.heap.size w (w.alloc o)):=λo=>(Below.refl _ _).alloc (Nat.le_refl _) _;cases hv:valsG O
 ·have HV2:Hid (∀w',Below w.heap.size w w'->Calls Tryz.prog 22 #[.agg #[.string O.name,.slice ip O.imps.length ic,.slice p O.globs.length cap]] w' λe w''=>e=.returned (.iface 447 (.pointer (some (adr 0))))∧Below w'.heap.size w' w''):=by
   have:=HVA.out;rw[hv]at this;exact this
  have HD:Hid (errC adr O=.iface 447 (.pointer (some (adr 0)))):=by show _=_;unfold errC;rw[hv];rfl
  clear hO hT hS hI hG HVA hv;generalize O.imps.length=n1 at*;generalize O.globs.length=n2 at*;go_enter Tryz.func15,Tryz.ntmps15;go_wp2_with (first|(go_at_call 22;refine(HV2.out _ (HB0.out _)).mono ?_;rintro e w1 ⟨rfl,hb1⟩))
  go_ret;exact⟨ret_val HD.out.symm,(HB0.out _).trans (hb1.mono (by simp))⟩
 ·have HV2:Hid (∀w',Below w.heap.size w w'->Calls Tryz.prog 22 #[.agg #[.string O.name,.slice ip O.imps.length ic,.slice p O.globs.length cap]] w' λe w''=>e=.returned .nilIface∧Below w'.heap.size w' w''):=by
   have:=HVA.out;rw[hv]at this;exact this
  have HOS:Hid (∀w',Below w.heap.size w w'->Calls Tryz.prog 27 #[.agg #[.string O.name,.slice ip O.imps.length ic,.slice p O.globs.length cap]] w' λe w''=>e=.returned (errC adr O)∧Below w'.heap.size w' w''):=by
   intro w' hb;have hg:GoodGs O.globs:=by
    have hv':=hv;simp only[valsG,Bool.and_eq_true]at hv';exact goodGs_of _ _ _ hv'.2
   have hc:errC adr O=errS adr (sBad (O.imps.length+O.globs.length) O.globs 0):=by unfold errC;rw[hv];rfl
   rw[hc];exact objSound_any adr O.name _ _ O.imps O.globs w' (hI.keep hb) (hG.keep hb) hg (hT.keep hb) (hS.keep hb)
  clear hO hT hS hI hG HVA hv;generalize O.imps.length=n1 at*;generalize O.globs.length=n2 at*;generalize errC adr O=r at*;go_enter Tryz.func15,Tryz.ntmps15;go_wp2_with (first|(go_at_call 22;refine(HV2.out _ (HB0.out _)).mono ?_;rintro e w1 ⟨rfl,hb0⟩;have hb1:Below w.heap.size w w1:=(HB0.out _).trans (hb0.mono (by simp));have y0:=cell_keep hb0 (alloc_cell w _ _ 0 _ rfl);have y1:=cell_keep hb0 (alloc_cell w _ _ 1 _ rfl);have y2:=cell_keep hb0 (alloc_cell w _ _ 2 _ rfl))|(go_at_call 27;refine(HOS.out _ hb1).mono ?_;rintro e w3 ⟨rfl,hb3⟩))
  go_ret;exact⟨rfl,hb1.trans (hb3.mono hb1.size)⟩
theorem tarnSound_told(O:LObj)(v r:Value)(c x y:Int)(w:World)(hO:ObjAt w v O)(hC:∀w',Below w.heap.size w w'->Calls Tryz.prog 15 #[v] w' λe w''=>e=.returned r∧Below w'.heap.size w' w'')(hT:Told w r c x y):
 Calls Tryz.prog 7 #[v] w λe w'=>e=.returned (.tuple #[.int .i64 c,.agg #[.int .i64 x,.int .i64 y]])∧Below w.heap.size w w':=by
 obtain⟨iv,gv,rfl,hsz,hI,hG⟩:=id hO;obtain⟨ip,ic,rfl,hi1,-⟩:=hI.open;obtain⟨p,cap,rfl,hs1,-⟩:=hG.open;have HC:Hid (∀w',Below w.heap.size w w'->Calls Tryz.prog 15 #[.agg #[.string O.name,.slice ip O.imps.length ic,.slice p O.globs.length cap]] w' λe w''=>e=.returned r∧Below w'.heap.size w' w''):=hC;have HT0:Hid (Told w r c x y):=hT;clear hC hT hO hI hG;generalize O.imps.length=n1 at*;generalize O.globs.length=n2 at*;have HB0:Hid (∀o1 o2,Below w.heap.size w ((w.alloc o1).alloc o2)):=λo1 o2=>((Below.refl _ _).alloc (Nat.le_refl _) _).alloc (by simp) _;have HP0:Hid (∀o1,P2 ((w.alloc o1).alloc (.cells #[.int .i64 0,.int .i64 0] 31)) (w.heap.size+1)):=λo1=>⟨by simp,by simp,by simp,by simp⟩;go_enter Tryz.func7,Tryz.ntmps7;go_wp2_with (first
  |(go_at_call 15;refine(HC.out _ (HB0.out _ _)).mono ?_;rintro e w1 ⟨rfl,hb1⟩;have hp1:=(HP0.out _).keep hb1;have hb2:Below w.heap.size w w1:=(HB0.out _ _).trans (hb1.mono (by simp;omega)))
  |(go_at_call 14;refine(HT0.out.kind _ hb2).mono ?_;rintro e w3 ⟨rfl,hb3⟩;have hp3:=hp1.keep hb3;have hb4:Below w.heap.size w w3:=hb2.trans (hb3.mono hb2.size))
  |(go_at_call 16;refine(HT0.out.place _ hb4).mono ?_;rintro e w5 ⟨rfl,hb5⟩;have hp5:=hp3.keep hb5;have HP5:Hid (P2 w5 (w.heap.size+1)):=hp5;have HB6:Hid (Below w.heap.size w w5):=hb4.trans (hb5.mono hb4.size);obtain⟨p0,p1,p2,p3⟩:=hp5))
 obtain⟨s0,s1⟩:=HP5.out.put (.int .i64 x) (.int .i64 y);refine bodyPost_ret (v:=.tuple #[.int .i64 c,.agg #[.int .i64 x,.int .i64 y]]) (by simp[results,Tryz.results7,go_sem,s0,s1]) rfl ?_;exact⟨rfl,(HB6.out.setCell (by simp) _).setCell (by simp) _⟩
theorem tarnSound_any(O:LObj)(v:Value)(w:World)(adr:Nat->Addr)(hO:ObjAt w v O)(hT:TabAt w)(hS:SentAt w adr):
 Calls Tryz.prog 7 #[v] w λe w'=>e=.returned (docS O)∧Below w.heap.size w w':=by
 have hC:∀w',Below w.heap.size w w'->Calls Tryz.prog 15 #[v] w' λe w''=>e=.returned (errC adr O)∧Below w'.heap.size w' w'':=λw' hb=>objCheck_any O v w' adr (hO.keep hb) (hT.keep hb) (hS.keep hb);cases hv:valsG O
 ·have h1:errC adr O=errE (adr 0):=by unfold errC;rw[hv];rfl
  have h2:docS O=.tuple #[.int .i64 15,.agg #[.int .i64 0,.int .i64 0]]:=by unfold docS;rw[hv];rfl
  rw[h2];rw[h1]at hC;exact tarnSound_told O v _ 15 0 0 w hO hC (told_plain hS 0 (by omega))
 ·have h1:errC adr O=errS adr (sBad (O.imps.length+O.globs.length) O.globs 0):=by unfold errC;rw[hv];rfl
  rw[h1]at hC;cases hsb:sBad (O.imps.length+O.globs.length) O.globs 0 with
  |none=>
   have h2:docS O=.tuple #[.int .i64 0,.agg #[.int .i64 0,.int .i64 0]]:=by unfold docS;rw[hv,hsb];rfl
   rw[h2];rw[hsb]at hC;exact tarnSound_told O v _ 0 0 0 w hO hC (told_nil w)
  |some r=>
   obtain⟨e,k,i⟩:=r;have he:=sBad_le _ _ hsb;have h2:docS O=.tuple #[.int .i64 (12+(e:Int)),.agg #[.int .i64 (k:Int),.int .i64 (i:Int)]]:=by unfold docS;rw[hv,hsb];rfl
   rw[h2];rw[hsb]at hC;refine tarnSound_told O v _ _ _ _ w hO hC ?_;rw[<-kCode_next he];exact told_fault hS (e+1) (by omega) _ _
end Go.Proofs.YtcpcplaeaimmpaaGreatDoor
