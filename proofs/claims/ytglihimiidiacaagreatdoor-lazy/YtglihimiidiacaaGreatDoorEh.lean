import Derived.Test.YtglihimiidiacaaGreatDoorEg
import Derived.Test.YtglihimiidiacaaGreatDoorEa
import Derived.Below
import Derived.Laws.AppendOwn
import Derived.Eval
namespace Go.Proofs.YtglihimiidiacaaGreatDoor.Ev8
open Go
variable {P:Program}
theorem bldT_ok{α:Type}(d:Nat):∀(l:List α) (n:Nat) (t:Tr α d),∃t',(∀C,bldT d l n t C=C t')∧(n+l.length≤4 ^ d→∀i,i<4 ^ d→get d i t'=if n≤i then (l[i-n]?).getD (get d i t) else get d i t)
 |[],n,t=>⟨t,fun C=>rfl,fun _ i _=>by simp⟩
 |x::l,n,t=>by
  obtain⟨t',h1,h2⟩:=bldT_ok d l (n+1) (put d n x t);refine⟨t',fun C=>?_,fun hn i hi=>?_⟩
  ·show(pw α d n).f x t (fun t=>bldT d l (Nat.succ n) t C)=C t';rw[pw_put];exact h1 C
  ·simp only[List.length_cons]at hn;rw[h2 (by omega) i hi];by_cases e:i=n
   ·subst e;rw[if_neg (by omega),if_pos (Nat.le_refl _),get_put];simp
   ·have hne:get d i (put d n x t)=get d i t:=get_put_ne d x t (by omega) hi (Ne.symm e);by_cases hle:n≤i
    ·rw[if_pos (by omega),if_pos hle,hne];obtain⟨m,rfl⟩:∃m,i=n+1+m:=⟨i-(n+1),by omega⟩;rw[show n+1+m-(n+1)=m by omega,show n+1+m-n=m+1 by omega];simp
    ·rw[if_neg (by omega),if_neg hle,hne]
def okD(l:List TypeInfo)(i:TypeInfo)(t:Nat)(d:TypeDesc):Bool:=and (and (and (match d with|.struct _|.array _ _=>true|_=>Nat.beq i.size 1) (Nat.blt 0 i.size)) (and (Nat.ble i.bytes 1073741824) (match i.zero with|some z=>and (Nat.beq z.cells.size i.size) (match z with|.tuple _=>false|_=>true)|none=>false)))
 (and (match d with|.slice el=>gT el|.array _ el=>gT el|.map k el=>and (gT k) (gT el)|.struct fs=>fs.toList.all (fun f=>gT f.type)|.pointer el=>(match nth l el with|some _=>true|none=>false)|_=>true) (match cvT t with|true=>(match d with|.int _=>true|_=>false)|false=>true))
def okT1(l:List TypeInfo)(t:Nat):Bool:=match nth l t with
 |none=>false
 |some i=>match i.desc with
  |.named _ u=>(match nth l u with
   |none=>false
   |some j=>okD l i t j.desc)
  |d=>okD l i t d
def okTy(l:List TypeInfo):Bool:=and (Nat.ble l.length 1024) ((List.range gN).all fun t=>or (not (gT t)) (okT1 l t))
def okF(fn:Func)(fd:Fd):Bool:=and (not (fn.name== "runtime.NumGoroutine")) (and (rsOk fn.results.toList) (match fn.body with|some c=>and (Nat.ble fd.vs.length 72) (okC fn.ntmps fd c)|none=>true))
def okFs:List Func→List Fd→Bool
 |[],[]=>true
 |fn::l,fd::m=>and (okF fn fd) (okFs l m)
 |_,_=>false
theorem okFs_at:∀{l:List Func} {m:List Fd},okFs l m=true→∀(i:Nat) (fn:Func),l[i]?=some fn→∃fd,m[i]?=some fd∧okF fn fd=true
 |[],[],_,i,fn,h=>by simp at h
 |fn::l,fd::m,hk,i,f,h=>by
  obtain⟨h1,h2⟩:=and_ok hk;cases i with
  |zero=>simp at h;subst h;exact⟨fd,by simp,h1⟩
  |succ i=>simpa using okFs_at h2 i f (by simpa using h)
 |[],_::_,hk,_,_,_=>by cases hk
 |_::_,[],hk,_,_,_=>by cases hk
theorem gT_lt{t:Nat}(h:gT t=true):t<gN:=blt_lt (and_ok h).1
theorem ty_of{ti:TT}{z:TypeInfo}(h:okTy P.types.toList=true)(hi:∀(t:Nat) i,P.types[t]?=some i→P.info? t=some i)(ht:∀t,t<1024→get 5 t ti=(P.types.toList[t]?).getD z):TyOk P ti:=by
 obtain⟨h1,h2⟩:=and_ok h;have hle:P.types.toList.length≤1024:=Nat.le_of_ble_eq_true h1;have at_:∀(t:Nat) i,P.types.toList[t]?=some i→tI ti t=i∧P.info? t=some i:=fun t i hq=>by
  have hlt:=(List.getElem?_eq_some_iff.1 hq).1;exact⟨by show get 5 t ti=i;rw[ht t (by omega),hq];rfl,hi t i (by simpa using hq)⟩
 have key:∀t,gT t=true→P.info? t=some (tI ti t)∧P.underlying t=some (und ti t)∧okD P.types.toList (tI ti t) t (und ti t)=true:=fun t hg=>by
  have hlt:=gT_lt hg;have h3:=List.all_eq_true.1 h2 t (List.mem_range.2 hlt);rw[hg]at h3;have h4:okT1 P.types.toList t=true:=by simpa using h3
  unfold okT1 at h4;rw[nth_eq]at h4;cases hq:P.types.toList[t]? with
  |none=>rw[hq]at h4;cases h4
  |some i=>
   rw[hq]at h4;simp only at h4;obtain⟨k3,k4⟩:=at_ t i hq;refine⟨by rw[k3];exact k4,?_⟩;unfold Program.underlying und;rw[k4,k3];obtain⟨desc⟩:=i;cases desc with
   |named nm u=>
    simp only at h4;rw[nth_eq]at h4;split at h4
    ·cases h4
    ·rename_i j hj
     obtain⟨e1,e2⟩:=at_ u j hj;simp only[e1,e2,Option.map_some];exact⟨trivial,h4⟩
   |_=>exact⟨rfl,h4⟩
 have parts:∀t,gT t=true→_:=fun t hg=>and_ok (key t hg).2.2;have pA:=fun t hg=>and_ok (parts t hg).1;have pB:=fun t hg=>and_ok (pA t hg).1;have pC:=fun t hg=>and_ok (pA t hg).2;have pD:=fun t hg=>and_ok (parts t hg).2;refine⟨fun t hg=>(key t hg).1,fun t hg=>(key t hg).2.1,fun t hg hag=>?_,fun t hg=>blt_lt (pB t hg).2,fun t hg=>Nat.le_of_ble_eq_true (pC t hg).1,fun t hg=>?_,fun t el hg he=>?_,fun t n el hg he=>?_,fun t k el hg he=>?_,fun t fs hg he f hf=>?_,fun t el hg he=>?_,fun t hg hc=>?_⟩
 ·have:=(pB t hg).1;unfold aggT at hag;split at this
  ·rename_i hs;rw[hs]at hag;cases hag
  ·rename_i hs;rw[hs]at hag;cases hag
  ·exact Nat.eq_of_beq_eq_true this
 ·have:=(pC t hg).2;split at this
  ·rename_i zz hz
   obtain⟨q1,q2⟩:=and_ok this;refine⟨zz,hz,Nat.eq_of_beq_eq_true q1,fun cs hcs=>?_⟩;subst hcs;cases q2
  ·cases this
 ·have:=(pD t hg).1;rw[he]at this;exact this
 ·have:=(pD t hg).1;rw[he]at this;exact this
 ·have:=(pD t hg).1;rw[he]at this;exact and_ok this
 ·have:=(pD t hg).1;rw[he]at this;exact List.all_eq_true.1 this f hf
 ·have:=(pD t hg).1;rw[he]at this;simp only at this;rw[nth_eq]at this;split at this
  ·rename_i j hj
   obtain⟨e1,e2⟩:=at_ el j hj;unfold Program.cellsOf;rw[e1,e2];rfl
  ·cases this
 ·have:=(pD t hg).2;rw[hc]at this;simp only at this;split at this
  ·rename_i k hk;exact⟨k,hk⟩
  ·cases this
theorem info_of{t:Nat}{i:TypeInfo}(h:P.types[t]?=some i):P.info? t=some i:=by
 have hlt:t<P.types.size:=(Array.getElem?_eq_some_iff.1 h).1;show(if t<P.types.size then P.types[t]? else _)=_;rw[if_pos hlt];exact h
theorem view_ok{z:TypeInfo}{vss:List Fd}{hks:List (Nat×Hk)}(hkOk:∀f g,fnd f hks=some g→HkOk P f g)(hm:P.follows .mixedOrders=true)(hty:okTy P.types.toList=true)(hfs:okFs P.funcs.toList vss=true)(hln:Nat.ble P.funcs.toList.length 1024=true)
 (hx:∀(f:Nat) fn,P.funcs[f]?=some fn→fn.body=none→(extN fn.name=1→Extern.findNext fn=none∧Extern.find fn=some Extern.BytealgCompare.compare)∧(extN fn.name=2→Extern.findNext fn=none∧Extern.find fn=some Extern.BytealgIndexByte.indexByte)):
 ∃V:Vw,V.P=P∧VOk V∧∀C,view P z vss hks C=C V:=by
 obtain⟨ti,t1,t2⟩:=bldT_ok 5 P.types.toList 0 (eTr z 5);obtain⟨fs,f1,f2⟩:=bldT_ok 5 (P.funcs.toList.map some) 0 (eTr none 5);obtain⟨ds,d1,d2⟩:=bldT_ok 5 vss 0 (eTr (⟨[],[]⟩:Fd) 5);have hlen:∀{l:List Func} {m:List Fd},okFs l m=true→m.length=l.length:=by
  intro l;induction l with
  |nil=>intro m h;cases m with|nil=>rfl|cons _ _=>cases h
  |cons a l ih=>intro m h;cases m with|nil=>cases h|cons b m=>simp[ih (and_ok h).2]
 have hle:P.funcs.toList.length≤1024:=Nat.le_of_ble_eq_true hln;have hle2:P.types.toList.length≤1024:=Nat.le_of_ble_eq_true (and_ok hty).1;have hT:TyOk P ti:=ty_of (z:=z) hty (fun t i h=>info_of h) fun t ht=>by
  have:=t2 (by simpa using hle2) t (by simpa using ht);rw[this,if_pos (Nat.zero_le _),Nat.sub_zero,get_e]
 refine⟨⟨P,ti,fs,ds,hks⟩,rfl,⟨hm,hT,fun f fn hf hg=>?_,fun f fn hf hb hn v l b a1 h _ ι u0 u1 w r0 r1=>ext_ok hf hb hn (hx f fn hf hb).1 (hx f fn hf hb).2 h r0 r1,hkOk⟩,fun C=>?_⟩
 ·have e1:=f2 (by simpa using hle) f (by simpa using hf);rw[if_pos (Nat.zero_le _),Nat.sub_zero,get_e]at e1;have hg':get 5 f fs=some fn:=hg;rw[e1]at hg';have hfn:P.funcs.toList[f]?=some fn:=by
   rw[List.getElem?_map]at hg';cases hq:P.funcs.toList[f]? with
   |none=>rw[hq]at hg';cases hg'
   |some x=>rw[hq]at hg';simp at hg';rw[hg']
  obtain⟨fd,k1,k2⟩:=okFs_at hfs f fn hfn;have e2:=d2 (by rw[hlen hfs];simpa using hle) f (by simpa using hf);rw[if_pos (Nat.zero_le _),Nat.sub_zero,k1]at e2;have e3:get 5 f ds=fd:=e2;obtain⟨q1,q2⟩:=and_ok k2;obtain⟨q2,q3⟩:=and_ok q2;refine⟨by simpa using hfn,by simpa using q1,q2,fun c hc=>?_⟩;rw[hc]at q3;obtain⟨q4,q5⟩:=and_ok q3;show(get 5 f ds).vs.length≤72∧okC fn.ntmps (get 5 f ds) c=true;rw[e3];exact⟨Nat.le_of_ble_eq_true q4,q5⟩
 ·unfold view;rw[t1,f1,d1]
end Go.Proofs.YtglihimiidiacaaGreatDoor.Ev8
namespace Go.Proofs.YtglihimiidiacaaGreatDoor.Ev8
open Go
variable {P:Program} {ι ι':Io} {F:Fence} {lo:Nat}
theorem code_fin{V:Vw}(hV:VOk V){ih:Ih}(hC:CallOk V.P ih)(hY:RndOk V.P ih){fn:Func}{c:Code}{fd:Fd}{N:Nat}(hvs:fd.vs.length≤72)(hokc:okC N fd c=true)(hrs:rsOk fn.results.toList=true){rs:List Rv}(hrv:rvs V.ti fd.vs fn.results.toList=some rs){t:TM}{H:HS}{v:AV}{H':HS}(h:endF ((comp V.P V.ti fd 300 c).f ih t H) (mkR (Nat.beq fn.results.size 1) rs)=.fv v H'){a0:Act}{w:World}(hcst:Cst N fd.vs ι t H a0 w)(hd:a0.defers=[]){R:Ending→World→Prop}(hRR:∀e w',RetP ι H w v H' e w'→R e w'):c.wpIn Fence.wide 0 V.P (bodyPostM Fence.wide 0 V.P fn R) a0 w:=by
 have hF:WF Fence.wide:=.inl rfl;have hd0:Dfs w.heap.size ι (hp H.h) w a0.defers:=by rw[hd];exact⟨Nat.le_refl _,[],rfl,List.nodup_nil,fun r h=>by cases h⟩
 have hcode:=comp_ok hF hV.hm hC hY hV.ty hvs (fun hro=>rf_ok hF hC hvs hro) 300 c hokc (.inl rfl);have fin:∀(tm1:TM) (H1:HS) (a1:Act) (w1:World),(mkR (Nat.beq fn.results.size 1) rs).f tm1 H1=.fv v H'→CEnd w.heap.size N fd.vs ι H w tm1 H1 a1 w1→LeavesInM Fence.wide 0 V.P fn a1.tmps R a1.defers .returning w1:=by
  intro tm1 H1 a1 w1 hres hend;obtain⟨ι1,⟨θ1,c1,c2⟩,g,-,rs',d1,d2,d3⟩:=hend;obtain⟨rfl,hm⟩:=mkR_ok hV.ty hrv hrs hres;rw[d1];refine leave_ok rs' w1 d2 (fun r hr'=>⟨(d3 r hr').1,(d3 r hr').2.1⟩) c2.hr fun w' k1 k2 k3 k4=>?_;have k5:∀B,B<w.heap.size→w'.heap[B]?=w1.heap[B]?:=fun B hB=>k3 B fun hm=>by have:=(d3 B hm).2.2;omega
  obtain⟨u,e1,e2⟩:=hm ι1 a1 w' θ1 k1 c1 c2.tr;refine⟨u,e1,hRR _ _ ⟨u,ι1,rfl,e2,k1,g.le,k1.rel,by have:=g.size;omega,fun B hB hn=>(k5 B hB).trans (g.keep B hB hn),g.own,⟨k4.1.trans g.env.1,k4.2.1.trans g.env.2.1,k4.2.2.trans g.env.2.2⟩,fun B hB hO arr t fr ha=>?_⟩⟩;obtain⟨a',x1,y1⟩:=g.shp B hB hO arr t fr ha;exact⟨a',(k5 B hB).trans x1,y1⟩
 cases hR:(comp V.P V.ti fd 300 c).f ih t H with
 |fail=>rw[hR]at h;cases h
 |fv v H=>rw[hR]at h;cases h
 |nrm tm1 H1=>
  rw[hR]at h;refine wpIn_mono (hcode w.heap.size t H _ ι a0 w hR (by simp) hcst hd0) fun e a1 w1 hq=>?_;obtain⟨rfl,hq⟩:=hq;exact fin tm1 H1 a1 w1 h hq
 |out x tm1 H1=>
  rw[hR]at h;cases x with
  |ex i=>cases h
  |gt l=>cases h
  |rt=>
   refine wpIn_mono (hcode w.heap.size t H _ ι a0 w hR (by simp) hcst hd0) fun e a1 w1 hq=>?_;obtain⟨rfl,hq⟩:=hq;exact fin tm1 H1 a1 w1 h hq
end Go.Proofs.YtglihimiidiacaaGreatDoor.Ev8
namespace Go.Proofs.YtglihimiidiacaaGreatDoor.Ev8
open Go
end Go.Proofs.YtglihimiidiacaaGreatDoor.Ev8
namespace Go.Proofs.YtglihimiidiacaaGreatDoor.Ev8
open Go
def extL(a b:Nat):List Func→Nat→Bool
 |[],_=>true
 |fn::l,i=>and (match extN fn.name with|0=>true|1=>Nat.beq i a|_=>Nat.beq i b) (extL a b l (i+1))
theorem extL_at{a b:Nat}:∀{l:List Func} {n:Nat},extL a b l n=true→∀(i:Nat) (fn:Func),l[i]?=some fn→(extN fn.name=1→n+i=a)∧(extN fn.name=2→n+i=b)
 |[],_,_,i,fn,h=>by simp at h
 |f::l,n,hk,i,fn,h=>by
  obtain⟨h1,h2⟩:=and_ok hk;cases i with
  |zero=>
   simp only[List.getElem?_cons_zero,Option.some.injEq]at h;subst h;refine⟨fun e=>?_,fun e=>?_⟩<;>(rw[e]at h1;exact Nat.eq_of_beq_eq_true h1)
  |succ i=>
   obtain⟨k1,k2⟩:=extL_at h2 i fn (by simpa using h);exact⟨fun e=>by have:=k1 e;omega,fun e=>by have:=k2 e;omega⟩
theorem hx_of{P:Program}{a b:Nat}(h:extL a b P.funcs.toList 0=true){fa fb:Func}(ha:P.funcs[a]?=some fa)(hb:P.funcs[b]?=some fb)(a1:Extern.findNext fa=none)(a2:Extern.find fa=some Extern.BytealgCompare.compare)(b1:Extern.findNext fb=none)(b2:Extern.find fb=some Extern.BytealgIndexByte.indexByte):
 ∀(f:Nat) fn,P.funcs[f]?=some fn→fn.body=none→(extN fn.name=1→Extern.findNext fn=none∧Extern.find fn=some Extern.BytealgCompare.compare)∧(extN fn.name=2→Extern.findNext fn=none∧Extern.find fn=some Extern.BytealgIndexByte.indexByte):=by
 intro f fn hf _;obtain⟨k1,k2⟩:=extL_at h f fn (by simpa using hf);refine⟨fun e=>?_,fun e=>?_⟩
 ·have:f=a:=by have:=k1 e;omega
  subst this;rw[ha]at hf;cases hf;exact⟨a1,a2⟩
 ·have:f=b:=by have:=k2 e;omega
  subst this;rw[hb]at hf;cases hf;exact⟨b1,b2⟩
end Go.Proofs.YtglihimiidiacaaGreatDoor.Ev8
namespace Go.Proofs.YtglihimiidiacaaGreatDoor.Ev8
open Go
theorem eqZ_eq:∀{a b:Int},eqZ a b=true→a=b
 |.ofNat a,.ofNat b,h=>by rw[Nat.eq_of_beq_eq_true h]
 |.negSucc a,.negSucc b,h=>by rw[Nat.eq_of_beq_eq_true h]
theorem zqI_eq{x y:AV}(h:zqI x y=true):x=y:=by
 unfold zqI at h;split at h
 ·rw[eqZ_eq h]
 ·rw[eqZ_eq h]
 ·cases h
theorem eqL_at:∀{l:AV} {k:Nat} {g:Nat→AV},eqL l k g=true→∃n,lenL' l=some n∧∀i,i<n→g (k+i)=nthA l i∧zqI (nthA l i) (nthA l i)=true:=by
 intro l;induction l with
 |nil=>exact fun _=>⟨0,rfl,fun i hi=>by omega⟩
 |cons x l _ ih=>
  intro k g h;obtain⟨h1,h2⟩:=and_ok h;obtain⟨n,e1,e2⟩:=ih h2;refine⟨n+1,by simp[lenL',e1],fun i hi=>?_⟩;cases i with
  |zero=>
   have:=zqI_eq h1;exact⟨this.symm,by show zqI x x=true;rw[←this]at h1;exact h1⟩
  |succ i=>
   have:=e2 i (by omega);rw[show k+(i+1)=Nat.succ k+i by simp only[Nat.succ_eq_add_one];omega];exact this
 |_=>intro k g h;cases h
def RowAt(w:World)(g:Nat)(l:AV):Prop:=∃(vs:List Value) (ty:TypeId),w.heap[g]?=some (.cells vs.toArray ty (0,0))∧RL (fun _=>none) l vs
theorem zqI_rv{ι ι':Io}{x:AV}(h:zqI x x=true){u v:Value}(hu:RV ι x u)(hv:RV ι' x v):u=v:=by
 unfold zqI at h;split at h
 ·have a:=hu.1;have b:=hv.1;simp at a b;rw[a,b]
 ·have a:=hu.1;have b:=hv.1;simp at a b;rw[a,b]
 ·cases h
theorem row_same{w w':World}{ι ι':Io}{h:Hp}{H':HS}{g:Nat}{l:AV}(hw:RowAt w g l)(hE:∃E,ι g=some E∧E.b=g∧E.d=0)(hr:HR ι' H' w')(hgo:Go1 ι h w ι' (hp H'.h) H'.nx w')(hb:eqB (get 7 g H'.h) l=true):w'.heap[g]?=w.heap[g]?:=by
 obtain⟨E,e1,e2,e3⟩:=hE;have hE':=hgo.le g E e1;obtain⟨k1,k2⟩:=hr.at hE';obtain⟨vs,ty,hvs,hl⟩:=hw;have main:∀(q:Option TypeId) (f:Nat→AV) (n:Nat),hp H'.h g=.c q f n→lenL' l=some n→(∀i,i<n→f i=nthA l i∧zqI (nthA l i) (nthA l i)=true)→w'.heap[g]?=w.heap[g]?:=by
  intro q f n hh hn hf;have hd:dead (hp H'.h g)=false:=by rw[hh];rfl
  obtain⟨E2,f1,f2⟩:=hgo.rel.blk g hd;rw[hE']at f1;cases f1;rw[hh]at f2;obtain⟨arr,t,fr,g1,g2,g3,g4,g5⟩:=f2;rw[e2]at g1;obtain⟨a',s1,s2⟩:=hgo.shp g (hp_lt hvs) ⟨g,E,hd,hE',e2⟩ _ _ _ hvs;rw[g1]at s1;simp only[Option.some.injEq,Obj.cells.injEq]at s1;obtain⟨rfl,-,-⟩:=s1;obtain⟨l1,l2⟩:=RL.len hn hl;have:arr=vs.toArray:=by
   apply Array.ext_getElem?;intro i;by_cases hi:i<n
   ·obtain⟨v,x1,x2⟩:=g5 i hi;obtain⟨u,y1,y2⟩:=l2 i hi;obtain⟨z1,z2⟩:=hf i hi;rw[e3,Nat.zero_add]at x1;rw[z1]at x2;rw[x1,List.getElem?_toArray,y1,zqI_rv z2 x2 y2]
   ·rw[Array.getElem?_eq_none (by rw[s2];simp;omega),Array.getElem?_eq_none (by simp;omega)]
  obtain⟨a2,t1,t2⟩:=hgo.shp g (hp_lt hvs) ⟨g,E,hd,hE',e2⟩ _ _ _ hvs;rw[g1]at t1;rw[g1,hvs,t1,this.symm];simp only[Option.some.injEq,Obj.cells.injEq]at t1;rw[t1.1]
 cases hB:get 7 g H'.h with
 |s q cs n=>
  rw[hB]at hb k1 k2;obtain⟨b1,b2⟩:=and_ok hb;obtain⟨n',n1,n2⟩:=eqL_at b2;have:n=n':=by rw[←lenA_of n1];exact Nat.eq_of_beq_eq_true b1
  subst this;refine main q _ n k1 n1 fun i hi=>?_;have hk:n≤16:=k2;rw[vw_get (by omega)];have:=n2 i hi;rwa[Nat.zero_add]at this
 |c q cs n=>
  rw[hB]at hb k1 k2;obtain⟨b1,b2⟩:=and_ok hb;obtain⟨n',n1,n2⟩:=eqL_at b2;have:n=n':=by rw[←lenA_of n1];exact Nat.eq_of_beq_eq_true b1
  subst this;refine main q _ n k1 n1 fun i hi=>?_;have hk:n≤4096:=k2;rw[vw_get (by omega)];have:=n2 i hi;rwa[Nat.zero_add]at this
 |_=>rw[hB]at hb;cases hb
end Go.Proofs.YtglihimiidiacaaGreatDoor.Ev8
namespace Go.Proofs.YtglihimiidiacaaGreatDoor.Ev8
open Go Go.RowKit
def io0:Io:=fun g=>if g<27 then some ⟨g,0,0,gR g⟩ else none
theorem io0_gok:GOk io0:=fun _g hg=>⟨_,if_pos hg,rfl,rfl,rfl⟩
set_option maxRecDepth 100000 in
theorem rows_len:lenL' rowsL=some 147:=by rfl
theorem pow_len:lenL' powL=some 20:=by rfl
theorem ge3{ι:Io}{g:Nat}(h:∃E,ι g=some E∧E.b=g∧E.d=0∧E.r=gR g):∃E,ι g=some E∧E.b=g∧E.d=0:=by
 obtain⟨E,h1,h2,h3,-⟩:=h;exact⟨E,h1,h2,h3⟩
structure Hold (w:World):Prop where
 sz:27≤w.heap.size
 r:RowAt w 24 rowsL
 p:RowAt w 0 powL
 s:∃L,fixOk L∧∀q∈L,w.heap[q.1]?=some (.cells q.2.1 q.2.2.1 q.2.2.2)∧q.1≠0∧q.1≠24
theorem start_ok{C:Tr Blk 7→Res}{R:Res}(h:start C=R)(hR:R≠.fail):∃B1 B2,BlkOf none rowsL 147 B1∧BlkOf none powL 20 B2∧C (put 7 0 B2 (put 7 24 B1 eH))=R:=by
 change newB none rowsL eH 24 (fun h _=>newB none powL h 0 fun h _=>C h)=R at h;obtain⟨B1,n1,-,-,k1,h⟩:=newB_ok h hR;obtain⟨B2,n2,-,-,k2,h⟩:=newB_ok h hR;have e1:=k1.2.1;rw[rows_len]at e1;cases e1;have e2:=k2.2.1;rw[pow_len]at e2;cases e2;exact⟨B1,B2,k1,k2,h⟩
theorem none_le(ι:Io):Le (fun _=>none) ι:=fun _ _ h=>by cases h
theorem row_br{w:World}{g n:Nat}{l:AV}{B:Blk}(h:RowAt w g l)(hB:BlkOf none l n B)(hn:gR g=n):BR io0 w ⟨g,0,0,gR g⟩ (hv B):=by
 obtain⟨vs,ty,h1,h2⟩:=h;obtain⟨-,hl,f,hf,hg⟩:=hB;obtain⟨a1,a2⟩:=RL.len hl h2;rw[hf];refine⟨vs.toArray,ty,(0,0),h1,by show 0+gR g=vs.length;omega,by show n≤gR g;omega,fun i _=>by simp,fun i hi=>?_⟩;obtain⟨v,b1,b2⟩:=a2 i hi;exact⟨v,by show vs.toArray[0+i]?=_;rw[Nat.zero_add,List.getElem?_toArray,b1],by rw[hg i hi];exact b2.mono (none_le _)⟩
theorem hp_eH(b:Nat):hp eH b=.no:=by
 unfold hp;split
 ·show hv (get 7 b (eTr .no 7))=.no;rw[get_e];rfl
 ·rfl
theorem bOk_put{b b':Nat}{B:Blk}{h:Tr Blk 7}(hb:b<16384)(hB:bOk B)(hh:∀b,b<16384→bOk (get 7 b h))(hb':b'<16384):bOk (get 7 b' (put 7 b B h)):=by
 by_cases e:b'=b
 ·subst e;rw[get_put];exact hB
 ·rw[get_put_ne 7 B h hb hb' (Ne.symm e)];exact hh b' hb'
theorem start_hr{w:World}(hw:Hold w){B1 B2:Blk}(k1:BlkOf none rowsL 147 B1)(k2:BlkOf none powL 20 B2):HR io0 ⟨put 7 0 B2 (put 7 24 B1 eH),200⟩ w:=by
 have hh:hp (put 7 0 B2 (put 7 24 B1 eH))=upd (upd (hp eH) 24 (hv B1)) 0 (hv B2):=by
  rw[hp_put _ _ (by omega),hp_put _ _ (by omega)]
 refine⟨⟨fun b hb=>?_,fun b hb=>?_,fun b b' E E' _ _ h1 h2 e=>?_,fun b E h=>?_⟩,fun b hb=>?_,by show 200≤16384;omega,io0_gok,?_⟩
 ·change dead (hp (put 7 0 B2 (put 7 24 B1 eH)) b)=false at hb;show ∃E,io0 b=some E∧BR io0 w E (hp (put 7 0 B2 (put 7 24 B1 eH)) b);rw[hh]at hb ⊢;by_cases e2:b=0
  ·subst e2;rw[upd_same];exact⟨_,rfl,row_br hw.p k2 rfl⟩
  ·rw[upd_ne _ e2]at hb ⊢;by_cases e3:b=24
   ·subst e3;rw[upd_same];exact⟨_,rfl,row_br hw.r k1 rfl⟩
   ·rw[upd_ne _ e3,hp_eH]at hb;cases hb
 ·have hb':200≤b:=hb;exact if_neg (by omega)
 ·simp only[io0]at h1 h2;split at h1<;>simp at h1;split at h2<;>simp at h2;subst h1 h2;exact e
 ·simp only[io0]at h;split at h<;>simp at h;subst h;have:=hw.sz;show b<_;omega
 ·refine bOk_put (b:=0) (by omega) k2.1 (fun b hb=>bOk_put (b:=24) (by omega) k1.1 (fun b hb=>?_) hb) hb;show bOk (get 7 b (eTr .no 7));rw[get_e];trivial
 ·obtain⟨L,k3,k4⟩:=hw.s;refine⟨L,k3,fun q hq=>⟨(k4 q hq).1,fun⟨b,E,d1,d2,d3⟩=>?_⟩⟩;simp only[io0]at d2;split at d2<;>simp at d2;subst d2;have d3':b=q.1:=d3;change dead (hp (put 7 0 B2 (put 7 24 B1 eH)) b)=false at d1;rw[hh,upd_ne _ (by rw[d3'];exact(k4 q hq).2.1),upd_ne _ (by rw[d3'];exact(k4 q hq).2.2),hp_eH]at d1;cases d1
theorem okE_ok{r:Res}(h:okE r=true):∃H,r=.fv (.b true) H∧eqB (get 7 0 H.h) powL=true∧eqB (get 7 24 H.h) rowsL=true:=by
 unfold okE at h;split at h
 ·rename_i H
  obtain⟨a,b⟩:=and_ok h;exact⟨H,rfl,a,b⟩
 ·cases h
theorem end_below{w w':World}{ι':Io}{H':HS}(hw:Hold w){B1 B2:Blk}(hr:HR ι' H' w')(hg:Go1 io0 (hp (put 7 0 B2 (put 7 24 B1 eH))) w ι' (hp H'.h) H'.nx w')
 (h2:eqB (get 7 0 H'.h) powL=true) (h1:eqB (get 7 24 H'.h) rowsL=true):Below w.heap.size w w':=by
 have hh:hp (put 7 0 B2 (put 7 24 B1 eH))=upd (upd (hp eH) 24 (hv B1)) 0 (hv B2):=by
  rw[hp_put _ _ (by omega),hp_put _ _ (by omega)]
 refine⟨hg.env.1,hg.env.2.1,hg.env.2.2,hg.size,fun k hk=>?_⟩;by_cases e2:k=0
 ·subst e2;exact row_same hw.p (ge3 (io0_gok 0 (by decide))) hr hg h2
 ·by_cases e3:k=24
  ·subst e3;exact row_same hw.r (ge3 (io0_gok 24 (by decide))) hr hg h1
  ·refine hg.keep k hk fun⟨b,E,d1,d2,d3⟩=>?_;simp only[io0]at d2;split at d2<;>simp at d2;subst d2;change b=k at d3;subst d3;rw[hh,upd_ne _ e2,upd_ne _ e3,hp_eH]at d1;cases d1
end Go.Proofs.YtglihimiidiacaaGreatDoor.Ev8
namespace Go.Proofs.YtglihimiidiacaaGreatDoor.Ev8
open Go Go.RowKit
variable {P:Program} {ι:Io}
theorem Rel.below{h:Hp}{nx:Nat}{w w':World}(hr:Rel ι h nx w)(hb:Below w.heap.size w w'):Rel ι h nx w' where
 blk b hd:=by
  obtain⟨E,h1,h2⟩:=hr.blk b hd;exact⟨E,h1,h2.heap (hb.block _ (hr.inn b E h1))⟩
 new:=hr.new
 apart:=hr.apart
 inn b E hE:=Nat.lt_of_lt_of_le (hr.inn b E hE) hb.size
theorem HR.below{H:HS}{w w':World}(hr:HR ι H w)(hb:Below w.heap.size w w'):HR ι H w'∧Go1 ι (hp H.h) w ι (hp H.h) H.nx w':=
 ⟨⟨hr.rel.below hb,hr.ok,hr.nx,hr.gl,hr.sn.mk' fun B _ _ _ e n=>⟨(hb.block B (get_lt e)).trans e,n⟩⟩,Le.refl _,hr.rel.below hb,hb.size,fun B hB _=>hb.block B hB,fun _ h=>.inl h,⟨hb.os,hb.tape,hb.output⟩,fun B hB _=>.same (hb.block B hB)⟩
theorem ret_below{f:FuncId}{args:Array Value}{H:HS}{w:World}(hr:HR ι H w){u:Value}{v:AV}(hv:RV ι v u)(hc:CallsIn Fence.wide 0 P f args w fun e w'=>e=.returned u∧Below w.heap.size w w'):CallsIn Fence.wide 0 P f args w (RetP ι H w v H):=by
 refine hc.mono fun e w' ⟨he,hb⟩=>?_;obtain⟨h1,h2⟩:=hr.below hb;exact⟨u,ι,he,hv,h1,h2⟩
theorem arg1{t:TM}{args:Array Value}(h:TA ι t args)(hs:args.size=1):∃u,args=#[u]∧RV ι (tget 0 t) u:=by
 obtain⟨u,hu⟩:∃u,args[0]?=some u:=⟨_,Array.getElem?_eq_getElem (by omega)⟩;refine⟨u,?_,(h 0 (by omega)).1 u hu⟩;apply Array.ext
 ·simp[hs]
 ·intro i h1 h2;have:i=0:=by omega
  subst this;simp only[Array.getElem?_eq_getElem h1,Option.some.injEq]at hu;simpa using hu
theorem arg2{t:TM}{args:Array Value}(h:TA ι t args)(hs:args.size=2):∃u v,args=#[u,v]∧RV ι (tget 0 t) u∧RV ι (tget 1 t) v:=by
 obtain⟨u,hu⟩:∃u,args[0]?=some u:=⟨_,Array.getElem?_eq_getElem (by omega)⟩;obtain⟨v,hv⟩:∃u,args[1]?=some u:=⟨_,Array.getElem?_eq_getElem (by omega)⟩;refine⟨u,v,?_,(h 0 (by omega)).1 u hu,(h 1 (by omega)).1 v hv⟩;apply Array.ext
 ·simp[hs]
 ·intro i h1 h2;have:i=0∨i=1:=by omega
  rcases this with rfl|rfl
  ·simp only[Array.getElem?_eq_getElem h1,Option.some.injEq]at hu;simpa using hu
  ·simp only[Array.getElem?_eq_getElem h1,Option.some.injEq]at hv;simpa using hv
theorem RV.pk{g j:Nat}{v:Value}(hg:1000≤g)(h:RV ι (.r g j) v):∃z:Int,v=.int .i64 z∧IntKind.i64.wrap z=z∧pickZ z ((g-1000) / 64)=(g-1000) % 64:=by
 obtain⟨E,h1,u,h2,h3⟩:=h;have e:opv g E=opn g E:=by
  match g,hg with
  |g+2,_=>rfl
 rw[e]at h2;have n1:isNu g=false:=by
  unfold isNu;have:Nat.blt g 40=false:=by
   cases hb:Nat.blt g 40 with
   |false=>rfl
   |true=>have:=blt_lt hb;omega
  rw[this];cases Nat.ble 10 g<;>rfl
 have n2:isTx g=false:=by
  unfold isTx;have:Nat.blt g 70=false:=by
   cases hb:Nat.blt g 70 with
   |false=>rfl
   |true=>have:=blt_lt hb;omega
  rw[this];cases Nat.ble 40 g<;>rfl
 unfold opn at h2;rw[n1,n2,if_neg (by simp),if_neg (by simp)]at h2;split at h2
 ·rename_i hc
  cases h2;exact⟨opX E,by simpa using h3,hc.2.1,hc.2.2⟩
 ·cases h2
theorem hkPick_ok{f:FuncId}(hent:∀args w,(callFunc f args).run P w=.ok (.enter f args) w)(hc:∀(z:Int) (m:Nat) (w:World),IntKind.i64.wrap z=z→0<m→m≤1000→CallsIn Fence.wide 0 P f #[.int .i64 z,.int .i64 m] w fun e w'=>e=.returned (.int .i64 (pickZ z m))∧Below w.heap.size w w')
 {k:Nat} {t:TM} {H:HS} {v:AV} {H':HS} {ih:Ih} (h:hkPick.f ih k t H=.fv v H') {w:World} {args:Array Value} (hr:HR ι H w) (hta:TA ι t args) (hsz:args.size=k):
 (callFunc f args).run P w=.ok (.enter f args) w∧CallsIn Fence.wide 0 P f args w (RetP ι H w v H'):=by
 have hR:(Res.fv v H')≠.fail:=by simp
 change iB (Nat.beq k 2) (pkC t.a0 t.a1 H) .fail=_ at h;obtain⟨c1,h1⟩:=iB_ok hR h;clear h;have hk:k=2:=Nat.eq_of_beq_eq_true c1;subst hk;refine⟨hent _ _,?_⟩;obtain⟨u0,u1,rfl,r0,r1⟩:=arg2 hta hsz;change RV ι t.a0 u0 at r0;change RV ι t.a1 u1 at r1;unfold pkC at h1;split at h1
 ·rename_i g j m e0 e1
  obtain⟨c2,h2⟩:=iB_ok hR h1;obtain⟨c7,c8⟩:=and_ok c2;obtain⟨c5,c6⟩:=and_ok c7;obtain⟨c3,c4⟩:=and_ok c8;rw[fN_eq]at h2;cases h2;have hg:=Nat.le_of_ble_eq_true c3;rw[e0]at r0;rw[e1]at r1;obtain⟨z,rfl,hz,hp⟩:=RV.pk hg r0;obtain rfl:=r1.int.1;have hm:(g-1000) / 64=m:=Nat.eq_of_beq_eq_true c4;rw[hm]at hp;refine ret_below hr ?_ (hc z m w hz (blt_lt c5) (Nat.le_of_ble_eq_true c6));refine⟨by rw[hp];rfl,?_⟩;rw[IntKind.wrap_i64];have:(g-1000) % 64<64:=Nat.mod_lt _ (by omega);show _=Int.ofNat (Nat.mod (Nat.sub g 1000) 64);simp only[Nat.sub_eq,Int.ofNat_eq_natCast];have e:Nat.mod (g-1000) 64=(g-1000) % 64:=rfl;rw[e];omega
 ·cases h1
theorem rl_mk:∀{l:AV} {vs:List Value} {n:Nat},lenL' l=some n→vs.length=n→(∀i,i<n→∃v,vs[i]?=some v∧RV ι (nthA l i) v)→RL ι l vs:=by
 intro l;induction l with
 |nil=>
  intro vs n h hl _;simp only[lenL',Option.some.injEq]at h;subst h;exact List.eq_nil_of_length_eq_zero hl
 |cons x l _ ih=>
  intro vs n h hl hv;simp only[lenL']at h;cases hq:lenL' l with
  |none=>rw[hq]at h;cases h
  |some m=>
   rw[hq]at h;simp only[Option.map_some,Option.some.injEq]at h;subst h;cases vs with
   |nil=>simp at hl
   |cons u us=>
    obtain⟨v,a1,a2⟩:=hv 0 (by omega);simp only[List.getElem?_cons_zero,Option.some.injEq]at a1;subst a1;refine⟨u,us,rfl,a2,ih hq (by simpa using hl) fun i hi=>?_⟩;obtain⟨v,b1,b2⟩:=hv (i+1) (by omega);exact⟨v,by simpa using b1,b2⟩
 |_=>intro vs n h;simp[lenL']at h
theorem row_is{H:HS}{w:World}(hr:HR ι H w){g:Nat}(hg:g<gG){l:AV}(hb:eqB (get 7 g H.h) l=true)(hn:lenA l=gR g):∃(vs:List Value) (ty:TypeId) (fr:Nat×Nat),w.heap[g]?=some (.cells vs.toArray ty fr)∧RL ι l vs:=by
 obtain⟨E,e1,e2,e3,e4⟩:=hr.gl g hg;obtain⟨k1,k2⟩:=hr.at e1;have main:∀(q:Option TypeId) (f:Nat→AV) (n:Nat),hp H.h g=.c q f n→lenL' l=some n→(∀i,i<n→f i=nthA l i)→∃(vs:List Value) (ty:TypeId) (fr:Nat×Nat),w.heap[g]?=some (.cells vs.toArray ty fr)∧RL ι l vs:=by
  intro q f n hh hl hf;obtain⟨E2,f1,f2⟩:=hr.rel.blk g (by rw[hh];rfl);rw[e1]at f1;cases f1;rw[hh]at f2;obtain⟨arr,t,fr,g1,g2,g3,g4,g5⟩:=f2;have hsz:arr.size=n:=by
   have:=lenA_of hl;omega
  refine⟨arr.toList,_,fr,by rw[←e2,g1,Array.toArray_toList],?_⟩;refine rl_mk hl (by rw[Array.length_toList];exact hsz) fun i hi=>?_;obtain⟨v,a1,a2⟩:=g5 i hi;rw[e3,Nat.zero_add]at a1;exact⟨v,by rw[Array.getElem?_toList];exact a1,by rw[←hf i hi];exact a2⟩
 cases hB:get 7 g H.h with
 |s q cs n=>
  rw[hB]at hb k1 k2;obtain⟨b1,b2⟩:=and_ok hb;obtain⟨n',n1,n2⟩:=eqL_at b2;have:n=n':=by rw[←lenA_of n1];exact Nat.eq_of_beq_eq_true b1
  subst this;refine main q _ n k1 n1 fun i hi=>?_;have hk:n≤16:=k2;rw[vw_get (by omega)];have:=(n2 i hi).1;rwa[Nat.zero_add]at this
 |c q cs n=>
  rw[hB]at hb k1 k2;obtain⟨b1,b2⟩:=and_ok hb;obtain⟨n',n1,n2⟩:=eqL_at b2;have:n=n':=by rw[←lenA_of n1];exact Nat.eq_of_beq_eq_true b1
  subst this;refine main q _ n k1 n1 fun i hi=>?_;have hk:n≤4096:=k2;rw[vw_get (by omega)];have:=(n2 i hi).1;rwa[Nat.zero_add]at this
 |_=>rw[hB]at hb;cases hb
theorem nu_tx{g:Nat}(h:isNu g=true):isTx (g+30)=true:=by
 obtain⟨h1,h2⟩:=and_ok h;have:=Nat.le_of_ble_eq_true h1;have:=blt_lt h2;unfold isTx;rw[Nat.ble_eq_true_of_le (show 40≤g+30 by omega),show Nat.blt (g+30) 70=true from Nat.ble_eq_true_of_le (show g+30+1≤70 by omega)];rfl
theorem hkItoa_ok{f:FuncId}{gp:Nat}{l:AV}(hgp:gp<gG)(hl:lenA l=gR gp)(hent:∀args w,(callFunc f args).run P w=.ok (.enter f args) w)
 (hc:∀(ι:Io) (z:Int) (w:World) (vs:List Value) (ty:TypeId) (fr:Nat×Nat),-9223372036854775808≤z→z≤9223372036854775807→w.heap[gp]?=some (.cells vs.toArray ty fr)→RL ι l vs→CallsIn Fence.wide 0 P f #[.int .i64 z] w fun e w'=>e=.returned (.string (decB z))∧Below w.heap.size w w')
 {k:Nat} {t:TM} {H:HS} {v:AV} {H':HS} {ih:Ih} (h:(hkItoa gp l).f ih k t H=.fv v H') {w:World} {args:Array Value} (hr:HR ι H w) (hta:TA ι t args) (hsz:args.size=k):
 (callFunc f args).run P w=.ok (.enter f args) w∧CallsIn Fence.wide 0 P f args w (RetP ι H w v H'):=by
 have hR:(Res.fv v H')≠.fail:=by simp
 change iB (Nat.beq k 1) (itC gp l t.a0 H) .fail=_ at h;obtain⟨c1,h1⟩:=iB_ok hR h;clear h;have hk:k=1:=Nat.eq_of_beq_eq_true c1;subst hk;refine⟨hent _ _,?_⟩;obtain⟨u0,rfl,r0⟩:=arg1 hta hsz;change RV ι t.a0 u0 at r0;unfold itC at h1;split at h1
 ·rename_i g j e0
  obtain⟨c2,h2⟩:=iB_ok hR h1;obtain⟨c3,h3⟩:=iB_ok hR h2;rw[fN_eq]at h3;cases h3;rw[e0]at r0;obtain⟨E,hE,rfl⟩:=RV.nu c2 r0;obtain⟨vs,ty,fr,a1,a2⟩:=row_is hr hgp c3 hl;have hz:=dbl_in (g-10) (opX E);have hm:=tx_mk (nu_tx c2) hE;rw[show g+30-40=g-10 by omega]at hm;exact ret_below hr hm (hc ι _ w vs ty fr hz.1 hz.2 a1 a2)
 ·cases h1
theorem tx_isnu{g:Nat}(h:isTx g=true):isNu (g-30)=true:=by
 obtain⟨h1,h2⟩:=and_ok h;have:=Nat.le_of_ble_eq_true h1;have:=blt_lt h2;unfold isNu;rw[Nat.ble_eq_true_of_le (show 10≤g-30 by omega),show Nat.blt (g-30) 40=true from Nat.ble_eq_true_of_le (show g-30+1≤40 by omega)];rfl
theorem hkNum_ok{f:FuncId}{chk:HS→Bool}{Wp:World→Prop}(hW:∀(ι:Io) H w,HR ι H w→chk H=true→Wp w)(hent:∀args w,(callFunc f args).run P w=.ok (.enter f args) w)
 (hc:∀(z:Int) (w:World),Wp w→-9223372036854775808≤z→z≤9223372036854775807→CallsIn Fence.wide 0 P f #[.string (decB z)] w fun e w'=>e=.returned (.tuple #[.int .i64 z,.bool true])∧Below w.heap.size w w')
 {k:Nat} {t:TM} {H:HS} {v:AV} {H':HS} {ih:Ih} (h:(hkNum chk).f ih k t H=.fv v H') {w:World} {args:Array Value} (hr:HR ι H w) (hta:TA ι t args) (hsz:args.size=k):
 (callFunc f args).run P w=.ok (.enter f args) w∧CallsIn Fence.wide 0 P f args w (RetP ι H w v H'):=by
 have hR:(Res.fv v H')≠.fail:=by simp
 change iB (Nat.beq k 1) (nmC chk t.a0 H) .fail=_ at h;obtain⟨c1,h1⟩:=iB_ok hR h;clear h;have hk:k=1:=Nat.eq_of_beq_eq_true c1;subst hk;refine⟨hent _ _,?_⟩;obtain⟨u0,rfl,r0⟩:=arg1 hta hsz;change RV ι t.a0 u0 at r0;unfold nmC at h1;split at h1
 ·rename_i g j e0
  obtain⟨c0,h2⟩:=iB_ok hR h1;obtain⟨c2,c3⟩:=and_ok c0;rw[fN_eq]at h2;cases h2;rw[e0]at r0;obtain⟨E,hE,rfl⟩:=RV.tx c2 r0;have hz:=dbl_in (g-40) (opX E);have hm:=nu_mk (tx_isnu c2) hE;rw[show g-30-10=g-40 by omega]at hm;refine ret_below hr ?_ (hc _ w (hW ι _ w hr c3) hz.1 hz.2);exact⟨[_,_],⟨_,_,rfl,hm,_,_,rfl,rfl,rfl⟩,rfl⟩
 ·cases h1
end Go.Proofs.YtglihimiidiacaaGreatDoor.Ev8
namespace Go.Proofs.YtglihimiidiacaaGreatDoor.Ev8
open Go
variable {ι:Io}
def encX(z:Int):Ent:=⟨0,if z<0 then 1 else 0,0,z.natAbs⟩
theorem opX_enc(z:Int):opX (encX z)=z:=by
 unfold opX encX;simp only;split
 ·rw[if_neg (by omega)];omega
 ·rw[if_pos rfl];omega
theorem HR.unk{H:HS}{w:World}(hr:HR ι H w){b:Nat}(z:Int)(hb:b<H.nx)(hn:ι b=none)(hw:0<w.heap.size):HR (upd ι b (some (encX z))) H w∧Le ι (upd ι b (some (encX z))):=by
 have hle:Le ι (upd ι b (some (encX z))):=fun b' e h=>by
  by_cases q:b'=b
  ·subst q;rw[hn]at h;cases h
  ·rwa[upd_ne _ q]
 have hne:∀b',dead (hp H.h b')=false→b'≠b:=fun b' hd q=>by
  subst q;obtain⟨E,h1,-⟩:=hr.rel.blk b' hd;rw[hn]at h1;cases h1
 refine⟨⟨⟨fun b' hd=>?_,fun b' hb'=>?_,fun b1 b2 E1 E2 d1 d2 h1 h2 e=>?_,fun b' E h=>?_⟩,hr.ok,hr.nx,hr.gl.le hle,hr.sn.mk' fun B _ _ _ e n=>⟨e,fun⟨b',E,d,x,y⟩=>n ⟨b',E,d,by rwa[upd_ne _ (hne b' d)]at x,y⟩⟩⟩,hle⟩
 ·obtain⟨E,h1,h2⟩:=hr.rel.blk b' hd;exact⟨E,hle _ _ h1,h2.mono hle⟩
 ·rw[upd_ne _ (show b'≠b by omega)];exact hr.rel.new b' hb'
 ·rw[upd_ne _ (hne b1 d1)]at h1;rw[upd_ne _ (hne b2 d2)]at h2;exact hr.rel.apart b1 b2 E1 E2 d1 d2 h1 h2 e
 ·by_cases q:b'=b
  ·subst q;rw[upd_same]at h;cases h;exact hw
  ·rw[upd_ne _ q]at h;exact hr.rel.inn b' E h
theorem unk_nu{b:Nat}{z:Int}(hz:IntKind.i64.wrap z=z)(h:ι b=some (encX z)):RV ι (.r 10 b) (.int .i64 z):=by
 have:=nu_mk (g:=10) rfl h;rw[opX_enc]at this;rwa[show dbl (10-10) z=z by unfold dbl;simpa using hz]at this
theorem unk_pk{b m:Nat}{z:Int}(hz:IntKind.i64.wrap z=z)(h:ι b=some (encX z))(hm:pickZ z m<64):RV ι (.r (1000+64*m+pickZ z m) b) (.int .i64 z):=by
 refine⟨_,h,.int .i64 z,?_,rfl⟩;have e:opv (1000+64*m+pickZ z m) (encX z)=opn (1000+64*m+pickZ z m) (encX z):=by
  rw[show 1000+64*m+pickZ z m=(998+64*m+pickZ z m)+2 by omega];rfl
 rw[e];generalize hg:1000+64*m+pickZ z m=g;have n1:isNu g=false:=by
  unfold isNu;have:Nat.blt g 40=false:=by
   cases hb:Nat.blt g 40 with
   |false=>rfl
   |true=>have:=blt_lt hb;omega
  rw[this];cases Nat.ble 10 g<;>rfl
 have n2:isTx g=false:=by
  unfold isTx;have:Nat.blt g 70=false:=by
   cases hb:Nat.blt g 70 with
   |false=>rfl
   |true=>have:=blt_lt hb;omega
  rw[this];cases Nat.ble 40 g<;>rfl
 unfold opn;rw[n1,n2,if_neg (by simp),if_neg (by simp),opX_enc,if_pos];refine⟨by omega,hz,?_⟩;have e1:(g-1000) / 64=m:=by omega
 have e2:(g-1000) % 64=pickZ z m:=by omega
 rw[e1,e2]
end Go.Proofs.YtglihimiidiacaaGreatDoor.Ev8
namespace Go.Proofs.YtglihimiidiacaaGreatDoor.Ev8
open Go
variable {P:Program} {ι ι' ι0:Io}
theorem Rel.take{h:Hp}{nx:Nat}{w:World}(hr:Rel ι h nx w){g c:Nat}{arr:Array Value}{t:TypeId}{l:AV}{n:Nat}(hB:w.heap[g]?=some (.cells arr t (0,0)))(hn:¬Own ι h g)(hl:lenL' l=some n)(hle:n≤arr.size)(hR:RL ι l (arr.toList.take n)):Rel (upd ι nx (some ⟨g,0,c,arr.size⟩)) (upd h nx (.c (some t) (nthA l) n)) (nx+1) w∧Le ι (upd ι nx (some ⟨g,0,c,arr.size⟩)):=by
 obtain⟨h1,h2⟩:=RL.len hl hR;have hle':Le ι (upd ι nx (some ⟨g,0,c,arr.size⟩)):=fun b e hb=>by
  by_cases q:b=nx
  ·subst q;rw[hr.new b (Nat.le_refl _)]at hb;cases hb
  ·rwa[upd_ne _ q]
 refine⟨⟨fun b hb=>?_,fun b hb=>by rw[upd_ne _ (by omega)];exact hr.new b (by omega),fun b1 b2 E1 E2 d1 d2 e1 e2 e=>?_,fun b E hE=>?_⟩,hle'⟩
 ·by_cases q:b=nx
  ·subst q;rw[upd_same,upd_same];refine⟨_,rfl,arr,t,(0,0),by rw[hB];rfl,by simp,hle,fun i _=>by simp,fun i hi=>?_⟩;obtain⟨v,a,b⟩:=h2 i hi;refine⟨v,?_,b.mono hle'⟩;rw[List.getElem?_take,if_pos hi,Array.getElem?_toList]at a;show arr[0+i]?=_;rwa[Nat.zero_add]
  ·rw[upd_ne _ q]at hb;rw[upd_ne _ q,upd_ne _ q];obtain⟨E,h1,h2⟩:=hr.blk b hb;exact⟨E,h1,h2.mono hle'⟩
 ·by_cases q1:b1=nx
  ·by_cases q2:b2=nx
   ·rw[q1,q2]
   ·exfalso;rw[q1,upd_same]at e1;cases e1;rw[upd_ne _ q2]at d2 e2;exact hn ⟨b2,E2,d2,e2,e.symm⟩
  ·by_cases q2:b2=nx
   ·exfalso;rw[q2,upd_same]at e2;cases e2;rw[upd_ne _ q1]at d1 e1;exact hn ⟨b1,E1,d1,e1,e⟩
   ·rw[upd_ne _ q1]at d1 e1;rw[upd_ne _ q2]at d2 e2;exact hr.apart b1 b2 E1 E2 d1 d2 e1 e2 e
 ·by_cases q:b=nx
  ·rw[q,upd_same]at hE;cases hE;exact get_lt hB
  ·rw[upd_ne _ q]at hE;exact hr.inn b E hE
structure Ad (ι0:Io) (H0:HS) (w0:World) (ι:Io) (H:HS) (w:World):Prop where
 hr:HR ι H w
 go:Go1 ι0 (hp H0.h) w0 ι (hp H.h) H.nx w
theorem Ad.start{H0:HS}{w0 w:World}(hr:HR ι0 H0 w0)(hb:RowKit.Below w0.heap.size w0 w):Ad ι0 H0 w0 ι0 H0 w:=⟨(hr.below hb).1,(hr.below hb).2⟩
theorem Ad.row{H0:HS}{w0 w:World}{h:Tr Blk 7}{nx:Nat}(A:Ad ι0 H0 w0 ι ⟨h,nx⟩ w)(hsn:Snt ι0 (hp H0.h) w0){b0 e size n:Nat}{v:Value}{xs:List Value}(hown:w.ownsRow b0 e size v n xs)(hn:0<n){g:Nat}(hg:v.ownBlock=some g)(hlo:w0.heap.size≤g)(hno:¬Own ι (hp h) g)
 {l:AV} {B:Blk} {m:Nat} (hB:BlkOf (some e) l m B) (hnx:nx<16384) (hR:RL ι l xs):
 ∃ι',Ad ι0 H0 w0 ι' ⟨put 7 nx B h,nx+1⟩ w∧Le ι ι'∧RV ι' (.sl nx size 0 0 n none) v∧∀B',Own ι' (hp (put 7 nx B h)) B'→Own ι (hp h) B'∨B'=g:=by
 obtain⟨hlen,hrow⟩:=hown;rcases hrow with⟨-,h0⟩|⟨g',cap,cur,rfl,-,k1,k2,-,k3,k4⟩
 ·omega
 have hgg:g'=g:=by simpa[Value.ownBlock]using hg
 subst hgg;have hm:n*size=m:=by
  have:=(RL.len hB.2.1 hR).1;omega
 have hle:m≤cur.size:=by rw[k3,←hm];exact Nat.mul_le_mul_right _ k2
 obtain⟨hrel,hl⟩:=A.hr.rel.take (c:=cap) k1 hno hB.2.1 hle (by rw[←hm,k4];exact hR);change Rel _ (upd (hp h) nx (.c (some e) (nthA l) m)) (nx+1) w at hrel;generalize hι:upd ι nx (some ⟨g',0,cap,cur.size⟩)=ι' at hrel hl;change upd ι nx (some ⟨g',0,cap,cur.size⟩)=ι' at hι;have hE:ι' nx=some ⟨g',0,cap,cur.size⟩:=by rw[←hι,upd_same]
 obtain⟨f,f1,f2⟩:=hB.2.2;have hrel':Rel ι' (upd (hp h) nx (hv B)) (nx+1) w:=by
  have:=hrel.cong (b:=nx) (τ':=some e) (cs':=f) (upd_same _ _ _) (.inl rfl) f2;rw[upd_upd]at this;rw[f1];exact this
 have hh':hp (put 7 nx B h)=upd (hp h) nx (hv B):=hp_put B h hnx;have hown:∀B',Own ι' (hp (put 7 nx B h)) B'→Own ι (hp h) B'∨B'=g':=fun B' ⟨b,E,d1,e1,e2⟩=>by
  by_cases q:b=nx
  ·subst q;rw[hE]at e1;cases e1;exact .inr e2.symm
  ·rw[hh',upd_ne _ q]at d1;rw[←hι,upd_ne _ q]at e1;exact .inl ⟨b,E,d1,e1,e2⟩
 have hgo:Go1 ι0 (hp H0.h) w0 ι' (hp (put 7 nx B h)) (nx+1) w:=by
  refine⟨A.go.le.trans hl,by rw[hh'];exact hrel',A.go.size,A.go.keep,fun B' hB'=>?_,A.go.env,fun B' q1 q2=>(hown B' q2).elim (fun q3=>A.go.shp B' q1 q3) (fun q3=>by omega)⟩;rcases hown B' hB' with h|rfl
  ·exact A.go.own B' h
  ·exact .inr hlo
 refine⟨ι',⟨A.hr.put hnx hB.1 hnx hl hrel' (by rw[←hh'];exact hsn.go hgo),hgo⟩,hl,?_,hown⟩;exact⟨_,hE,k2,fun _=>⟨k3.symm,Nat.zero_le _⟩,by rw[show(if capOf (⟨g',0,cap,cur.size⟩:Ent) 0 none=0 then 0 else 0)=0 from ite_self 0];simp[capOf]⟩
end Go.Proofs.YtglihimiidiacaaGreatDoor.Ev8
namespace Go.Proofs.YtglihimiidiacaaGreatDoor.Ev8
open Go
variable {P:Program}
theorem ran_more{m:Machine}{o:Outcome}{w:World}:∀{n:Nat},runN P n m=.ended o w→∀k,runN P (n+k) m=.ended o w
 |0,h,_=>by cases h
 |n+1,h,k=>by
  rw[show n+1+k=(n+k)+1 by omega];simp only[runN]at h ⊢;cases hs:step P m with
  |next m'=>rw[hs]at h;exact ran_more h k
  |ended o' w'=>rw[hs]at h;exact h
theorem calls_both{f:FuncId}{args:Array Value}{w:World}{Q1 Q2:Value→World→Prop}(hi:P.inits.idxOf? f=none)(h1:Calls P f args w fun e w'=>∃v,e=.returned v∧Q1 v w')(h2:Calls P f args w fun e w'=>∃v,e=.returned v∧Q2 v w'):∃v w',Q1 v w'∧Q2 v w':=by
 have g:∀{Q:Value→World→Prop},(Calls P f args w fun e w'=>∃v,e=.returned v∧Q v w')→∃n v w',runN P n (lone (Frame.enter P f args .normal) [] w)=.ended (.done v) w'∧Q v w':=fun {Q} h=>by
  obtain⟨n,v,w',fr,-,k2,k3⟩:=(h.mono (R':=fun|.returned v,w'=>Q v w'|_,_=>False) (by rintro e w' ⟨v,rfl,k⟩;exact k)).done_lone hi;exact⟨_,v,w',k2,k3⟩
 obtain⟨n,v,w1,a1,a2⟩:=g h1;obtain⟨k,u,w2,b1,b2⟩:=g h2;have e1:=ran_more a1 k;have e2:=ran_more b1 n;rw[Nat.add_comm,e1]at e2;cases e2;exact⟨v,w1,a2,b2⟩
end Go.Proofs.YtglihimiidiacaaGreatDoor.Ev8
