import Derived.Test.YtglihimiidiacaaGreatDoorEa
import Derived.Test.YtglihimiidiacaaGreatDoorCk
import Derived.Test.YtglihimiidiacaaGreatDoorCe
import Derived.WalkKit
import Derived.Lib.ItoaLen
namespace Go.Proofs.YtglihimiidiacaaGreatDoor.Ev8
open Go
def kOp(ti:TypeId→Bool):Op→Nat
 |.move _|.assign _|.pick ..|.build ..|.nilCheck _|.binOp ..|.unOp ..|.makeInterface ..|.makeFunc ..|.fieldAddr ..|.field ..|.indexAddr ..|.index ..|.slice ..|.typeAssert ..|.extract ..=>0
 |.convert _ d _=>bif ti d then 0 else 3
 |.load ..=>1
 |.alloc _|.box ..|.buildSlice ..=>2
 |.call c=>match c.callee with|.builtin .len|.builtin .min|.builtin .max=>0|_=>3
 |_=>3
def sub(a b:Nat):Bool:=Nat.beq (Nat.land a b) a
def bitOf(i:Nat):Nat:=Nat.pow 2 i
def befs:List Oper→List Nat→Option (List Nat)
 |[],acc=>some acc
 |o::l,acc=>match o.after.toList.foldl (fun(m:Option Nat) e=>match m,e.ground with
  |none,_=>none
  |some m,.textOnly _|some m,.gcOnly _=>some m
  |some m,_=>match acc[e.on]? with|some q=>some (Nat.lor m (Nat.lor q (bitOf e.on)))|none=>none) (some 0) with
  |some m=>befs l (acc++[m])
  |none=>none
def dstAt(ops:List Oper)(t:Nat):Option Nat:=ops.findIdx? fun o=>match o.dst with|some d=>Nat.beq d t|none=>false
def opsIn(ops:List Oper)(bs:List Nat)(i:Nat)(o:Oper)(m:Nat):Bool:=o.op.operands.toList.all fun x=>match x with
 |.tmp t=>match dstAt ops t with|some j=>or (m.testBit j) (match bs[j]? with|some q=>q.testBit i|none=>false)|none=>true
 |_=>true
def opsB(ops:List Oper)(o:Oper)(m:Nat):Bool:=o.op.operands.toList.all fun x=>match x with
 |.tmp t=>match dstAt ops t with|some j=>m.testBit j|none=>true
 |_=>true
def grdIn(ti:TypeId→Bool)(ops:List Oper)(o:Oper)(m:Nat):Bool:=match o.guard with|some g=>and (m.testBit g.1) (match ops[g.1]? with|some og=>not (Nat.beq (kOp ti og.op) 2)|none=>true)|none=>true
structure Ps where (D Ch Pd:Nat) (ea:List (Nat×Nat))
def plStep(ti:TypeId→Bool)(ops:List Oper)(bs:List Nat)(q:Nat×Bool)(s:Ps):Option Ps:=
 match ops[q.1]?,bs[q.1]? with
 |some o,some m=>
  bif q.2 then
   (bif and (and (s.D.testBit q.1) (Nat.beq (kOp ti o.op) 1)) (opsB ops o m) then some {s with Pd:=bif s.Pd.testBit q.1 then Nat.xor s.Pd (bitOf q.1) else s.Pd} else none)
  else
   bif and (and (not (s.D.testBit q.1)) (sub m s.D)) (and (and (opsIn ops bs q.1 o m) (grdIn ti ops o m)) (o.op.operands.toList.all fun x=>match x with|.tmp t=>(match dstAt ops t with|some j=>s.ea.all fun p=>or (not (Nat.beq p.1 j)) (sub p.2 m)|none=>true)|_=>true)) then
    match kOp ti o.op with
    |0=>some {s with D:=Nat.lor s.D (bitOf q.1)}
    |1=>bif sub s.Ch m then some {s with D:=Nat.lor s.D (bitOf q.1)} else none
    |2=>bif and (Nat.beq s.Pd 0) (or (sub s.Ch m) (match o.guard with|none=>true|some _=>false)) then some {s with D:=Nat.lor s.D (bitOf q.1),Ch:=Nat.lor s.Ch (bitOf q.1),ea:=bif sub s.Ch m then s.ea else (q.1,Nat.lor s.Ch (bitOf q.1))::s.ea} else none
    |_=>bif and (Nat.beq s.Pd 0) (sub s.Ch m) then
     some {s with D:=Nat.lor s.D (bitOf q.1),Ch:=Nat.lor s.Ch (bitOf q.1),Pd:=((List.range ops.length).filter fun j=>and (and (s.D.testBit j) (not (m.testBit j))) (match ops[j]? with|some o=>Nat.beq (kOp ti o.op) 1|none=>false)).foldl (fun a j=>Nat.lor a (bitOf j)) 0}
     else none
   else none
 |_,_=>none
def noDup:List Nat→Bool
 |[]=>true
 |a::l=>and (not (l.any fun b=>Nat.beq a b)) (noDup l)
def plOk(ti:TypeId→Bool)(ops:List Oper)(pl:List (Nat×Bool)):Bool:=
 match befs ops []with
 |none=>false
 |some bs=>and (noDup (ops.filterMap (·.dst))) (match pl.foldl (fun s q=>match s with|some s=>plStep ti ops bs q s|none=>none) (some ⟨0,0,0,[]⟩) with
  |some s=>and (Nat.beq s.D (Nat.sub (bitOf ops.length) 1)) (Nat.beq s.Pd 0)
  |none=>false)
def seqPl(ops:List Oper):List (Nat×Bool):=(List.range ops.length).map fun i=>(i,false)
def planOf(fd:Fd)(id:Nat)(ops:List Oper):List (Nat×Bool):=match look id fd.dr with|some l=>l|none=>seqPl ops
def dOk(N:Nat)(d:Option Tmp):Bool:=match d with|none=>true|some t=>Nat.blt t N
def xOk:Operand→Bool|.global g=>Nat.blt g gG|_=>true
def tyO:Op→List TypeId
 |.alloc t|.box t _|.build t _|.buildSlice t _ _|.load t _|.store t _ _|.makeInterface t _|.makeMap t _|.makeSlice t _ _|.slice t ..|.fieldAddr t ..|.field t ..|.indexAddr t ..|.index t ..|.lookup t ..|.mapUpdate t ..=>[t]
 |.binOp _ t _ _ _=>[t]
 |.convert a d _=>[a,d]
 |.typeAssert _ _ d _=>[d]
 |.call c=>c.argTypes.toList
 |_=>[]
def opOk(o:Oper):Bool:=and (o.op.operands.toList.all xOk) ((tyO o.op).all gT)
def rgOk(N:Nat)(fd:Fd)(id:Nat)(ops:List Oper)(draw:Bool):Bool:=and (ops.all fun o=>and (dOk N o.dst) (opOk o)) (match draw with|true=>plOk cvT ops (planOf fd id ops)|false=>true)
def noRf:Code→Bool
 |.seq a b=>and (noRf a) (noRf b)
 |.cond _ a b=>and (noRf a) (noRf b)
 |.block _ a=>noRf a
 |.loop a=>noRf a
 |.scope a=>noRf a
 |.rangeFunc ..=>false
 |_=>true
def okC(N:Nat)(fd:Fd):Code→Bool
 |.region id ops d=>rgOk N fd id ops.toList d
 |.seq a b=>and (okC N fd a) (okC N fd b)
 |.cond c a b=>and (xOk c) (and (okC N fd a) (okC N fd b))
 |.block _ a=>okC N fd a
 |.loop a=>okC N fd a
 |.scope a=>okC N fd a
 |.rangeFunc g ps a b=>and (and (xOk g) (ps.toList.all fun p=>Nat.blt p N)) (and (and (okC N fd a) (okC N fd b)) (and (noRf a) (noRf b)))
 |_=>true
def LpOk(fd:Fd)(ps:List Tmp)(ac bd:Code)(N:Nat):Prop:=fd.vs.length≤72∧okC N fd ac=true∧okC N fd bd=true∧ps.all (fun p=>Nat.blt p N)=true∧noRf ac=true∧noRf bd=true
end Go.Proofs.YtglihimiidiacaaGreatDoor.Ev8
namespace Go.Proofs.YtglihimiidiacaaGreatDoor.Ev8
open Go Go.Proofs.YtglihimiidiacaaGreatDoor
def altW(x:LAlt):List Value:=[.int .i64 x.tag,.int .i64 x.tto]
def insW(x:LIns):List Value:=[.int .i64 x.op,.int .i64 x.a,.agg (x.alts.flatMap altW).toArray]
def globW(g:LGlob):List Value:=[.string g.name,.int .i64 g.arity,.bool g.exp,.agg (g.code.flatMap insW).toArray]
def objW(O:LObj):List Value:=[.agg #[.string O.name,.agg (O.globs.flatMap globW).toArray]]
def FileOf(ws:List Value)(s:ByteArray):Prop:=∃O:LObj,O.imps=[]∧ws=objW O∧docD s=.ok O
def fixOk(L:List (Nat×Array Value×TypeId×(Nat×Nat))):Prop:=∃adr:Nat→Addr,
 (∀i,i<19→∃cs t fr,(kNum i,cs,t,fr)∈L∧cs[0]?=some (errE (adr i)))∧(∀i,i<19→∃c t,((adr i).block,c,t,(0,0))∈L)∧(∀i j,i<19→j<19→i≠j→adr i≠adr j)∧
 (∃cs t fr,(19,cs,t,fr)∈L∧cs[0]?=some (.iface 255 (.agg #[.pointer (some ⟨27,70,none⟩)])))∧
 (∃cs t fr ev,(25,cs,t,fr)∈L∧cs[0]?=some ev∧(ev=.nilIface∨∃te pe,ev=.iface te pe))∧
 (∃cs t fr ev,(26,cs,t,fr)∈L∧cs[0]?=some ev∧(ev=.nilIface∨∃te pe,ev=.iface te pe))
end Go.Proofs.YtglihimiidiacaaGreatDoor.Ev8
namespace Go.Proofs.YtglihimiidiacaaGreatDoor.Ev8
open Go
variable {τ τ':Option TypeId}
structure Ent where
 b:Nat
 d:Nat
 c:Nat
 r:Nat
abbrev Io:=Nat→Option Ent
abbrev Te:=Nat→AV
inductive SB where
 |no
 |lp (fd:Fd) (tm:Te) (ps:List Tmp) (ac bd:Code) (pend:Option Xt)
 |m (es:List (Nat×Nat×AV))
 |c (τ:Option TypeId) (cs:Nat→AV) (n:Nat)
 |o (a:AV)
abbrev Hp:=Nat→SB
def upd{α:Type}(f:Nat→α)(k:Nat)(x:α):Nat→α:=fun i=>if i=k then x else f i
theorem upd_same{α:Type}(f:Nat→α)(k:Nat)(x:α):upd f k x k=x:=by simp[upd]
theorem upd_ne{α:Type}(f:Nat→α){k i:Nat}(h:i≠k)(x:α):upd f k x i=f i:=by simp[upd,h]
def capOf(E:Ent)(o:Nat):Option Nat→Nat
 |some c=>c
 |none=>E.c-o
def opX(E:Ent):Int:=if E.d=0 then (E.r:Int) else -(E.r:Int)
def decB(z:Int):ByteArray:=⟨(Lib.itoa z).toArray⟩
def dbl(k:Nat)(z:Int):Int:=IntKind.i64.wrap (2 ^ k*z)
def pickZ(z:Int)(m:Nat):Nat:=(if z<0 then -(z+1) else z).toNat % m
def opn(g:Nat)(E:Ent):Option Value:=
 if isNu g=true then some (.int .i64 (dbl (g-10) (opX E)))
 else if isTx g=true then some (.string (decB (dbl (g-40) (opX E))))
 else if 1000≤g∧IntKind.i64.wrap (opX E)=opX E∧pickZ (opX E) ((g-1000) / 64)=(g-1000) % 64 then some (.int .i64 (opX E)) else none
def opv(g:Nat)(E:Ent):Option Value:=match g with
 |0=>some (.map (some E.b))
 |1=>some (.func (.yield E.b) #[] #[])
 |g=>opn g E
def catB:List Value→Option (List UInt8)
 |[]=>some []
 |.string s::l=>(catB l).map (s.data.toList++·)
 |_=>none
def RL(ι:Io):AV→List Value→Prop
 |.un,vs=>∃v,vs=[v]
 |.nil,vs=>vs=[]
 |.cons x l,vs=>∃v ws,vs=v::ws∧RL ι x [v]∧RL ι l ws
 |.v x,vs=>vs=[x]
 |.r g b,vs=>∃E,ι b=some E∧∃v,opv g E=some v∧vs=[v]
 |.k g t l,vs=>∃ws,RL ι l ws∧(match g with
  |0=>vs=[.agg ws.toArray]
  |1=>vs=[.tuple ws.toArray]
  |2=>vs=[.func (.func t) #[] ws.toArray]
  |3=>∃v,ws=[v]∧vs=[.iface t v]
  |4=>∃bs,catB ws=some bs∧vs=[.string ⟨bs.toArray⟩]
  |6=>∃z:Int,∃ub:Nat,ws=[.int .i64 (ub:Int)]∧(t:Int)≤z∧z≤ub∧ub≤1099511627776∧vs=[.int .i64 z]
  |7=>∃s,FileOf ws s∧vs=[.string s]
  |8=>∃(E:Ent) (s:ByteArray),ι t=some E∧ws=[.string s]∧vs=[.slice (some ⟨E.b,0,none⟩) s.size E.c]
  |_=>False)
 |.s l n,vs=>vs=[.string (bsOf l n)]
 |.sl b e o k n c,vs=>∃E,ι b=some E∧n≤capOf E o c∧(c=none→E.c*e=E.r∧o≤E.c)∧
  vs=[.slice (some ⟨E.b,E.d+(if capOf E o c=0 then k else o)*e,none⟩) n (capOf E o c)]
 |.ptr b o,vs=>∃E,ι b=some E∧vs=[.pointer (some ⟨E.b,E.d+o,none⟩)]
 |.b x,vs=>vs=[.bool x]
 |.i k n,vs=>vs=[.int k n]∧k.wrap n=n
def RV(ι:Io)(a:AV)(v:Value):Prop:=RL ι a [v]
def Le(ι ι':Io):Prop:=∀b e,ι b=some e→ι' b=some e
theorem Le.refl(ι:Io):Le ι ι:=fun _ _ h=>h
theorem Le.trans{a b c:Io}(h:Le a b)(k:Le b c):Le a c:=fun x e hx=>k x e (h x e hx)
theorem RL.mono{ι ι':Io}(h:Le ι ι'):∀{a:AV} {vs:List Value},RL ι a vs→RL ι' a vs:=by
 intro a;induction a with
 |un=>exact fun h=>h
 |nil=>exact fun h=>h
 |cons x l ih1 ih2=>rintro vs ⟨v,ws,rfl,h1,h2⟩;exact⟨v,ws,rfl,ih1 h1,ih2 h2⟩
 |v x=>exact fun h=>h
 |r g b=>rintro vs ⟨E,h1,h2⟩;exact⟨E,h _ _ h1,h2⟩
 |k g t l ih=>
  rintro vs ⟨ws,h1,h2⟩;refine⟨ws,ih h1,?_⟩;match g,h2 with
  |0,h2=>exact h2
  |1,h2=>exact h2
  |2,h2=>exact h2
  |3,h2=>exact h2
  |4,h2=>exact h2
  |5,h2=>exact h2
  |6,h2=>exact h2
  |7,h2=>exact h2
  |8,⟨E,s,a,b⟩=>exact⟨E,s,h _ _ a,b⟩
  |g+9,h2=>exact h2
 |s l n=>exact fun h=>h
 |sl b e o k n c=>rintro vs ⟨E,h1,h2⟩;exact⟨E,h _ _ h1,h2⟩
 |ptr b o=>rintro vs ⟨E,h1,h2⟩;exact⟨E,h _ _ h1,h2⟩
 |b x=>exact fun h=>h
 |i k n=>exact fun h=>h
theorem RV.mono{ι ι':Io}(h:Le ι ι'){a:AV}{v:Value}(k:RV ι a v):RV ι' a v:=RL.mono h k
def BR(ι:Io)(w:World)(E:Ent):SB→Prop
 |.no=>True
 |.m es=>∃(ms:Array MapEntry) (k:Nat),w.heap[E.b]?=some (.map ms k)∧ms.toList.length=es.length∧∀(i:Nat) (q:Nat×Nat×AV),es[i]?=some q→∃e:MapEntry,ms[i]?=some e∧e.key=Value.string (bsOf q.1 q.2.1)∧q.2.1<256 ^ q.1∧RV ι q.2.2 e.val
 |.c τ cs n=>∃(arr:Array Value) (ty:TypeId) (fr:Nat×Nat),w.heap[E.b]?=some (.cells arr (τ.getD ty) fr)∧E.d+E.r=arr.size∧n≤E.r∧(∀i,i<E.r→¬(fr.1≤E.d+i∧E.d+i<fr.2))∧∀i,i<n→∃v,arr[E.d+i]?=some v∧RV ι (cs i) v
 |.lp fd tm ps ac bd pend=>∃(f:FuncId) (tmps:Array Value) (D:Nat),w.heap[E.b]?=some (.loop {state:=if pend.isSome then .done else .ready,pending:=pend.map (fun|.ex i=>Code.exit i|.gt l=>Code.goto l|.rt=>Code.ret),fn:=f,tmps:=tmps,params:=ps.toArray,assign:=ac,body:=bd,defers:=D})∧(∀t,RV ι (tm t) (tmps.getD t undef))∧LpOk fd ps ac bd tmps.size
 |.o a=>∃(arr:Array Value) (ty:TypeId) (fr:Nat×Nat) (s:ByteArray),w.heap[E.b]?=some (.cells arr ty fr)∧RV ι a (.string s)∧∀(i:Nat) (x:UInt8),s.data[i]?=some x→arr[i]?=some (.int .u8 x.toNat)
def dead:SB→Bool
 |.no=>true
 |_=>false
structure Rel (ι:Io) (h:Hp) (nx:Nat) (w:World):Prop where
 blk:∀b,dead (h b)=false→∃E,ι b=some E∧BR ι w E (h b)
 new:∀b,nx≤b→ι b=none
 apart:∀b b' E E',dead (h b)=false→dead (h b')=false→ι b=some E→ι b'=some E'→E.b=E'.b→b=b'
 inn:∀b E,ι b=some E→E.b<w.heap.size
def Own(ι:Io)(h:Hp)(B:Nat):Prop:=∃b E,dead (h b)=false∧ι b=some E∧E.b=B
def Env(w w':World):Prop:=w'.os=w.os∧w'.tape=w.tape∧w'.output=w.output
def Shp(w w':World)(B:Nat):Prop:=∀arr t fr,w.heap[B]?=some (.cells arr t fr)→∃arr',w'.heap[B]?=some (.cells arr' t fr)∧arr'.size=arr.size
theorem Shp.same{w w':World}{B:Nat}(h:w'.heap[B]?=w.heap[B]?):Shp w w' B:=fun arr _t _fr e=>⟨arr,h.trans e,rfl⟩
structure Go1 (ι:Io) (h:Hp) (w:World) (ι':Io) (h':Hp) (nx':Nat) (w':World):Prop where
 le:Le ι ι'
 rel:Rel ι' h' nx' w'
 size:w.heap.size≤w'.heap.size
 keep:∀B,B<w.heap.size→¬Own ι h B→w'.heap[B]?=w.heap[B]?
 own:∀B,Own ι' h' B→Own ι h B∨w.heap.size≤B
 env:Env w w'
 shp:∀B,B<w.heap.size→Own ι' h' B→Shp w w' B
theorem Go1.trans{ι ι1 ι2:Io}{h h1 h2:Hp}{w w1 w2:World}{n1 n2:Nat}(a:Go1 ι h w ι1 h1 n1 w1)(b:Go1 ι1 h1 w1 ι2 h2 n2 w2):Go1 ι h w ι2 h2 n2 w2 where
 le:=a.le.trans b.le
 rel:=b.rel
 size:=Nat.le_trans a.size b.size
 keep B hB hn:=by
  refine(b.keep B (Nat.lt_of_lt_of_le hB a.size) fun h=>?_).trans (a.keep B hB hn);rcases a.own B h with h|h
  ·exact hn h
  ·omega
 own B h:=by
  rcases b.own B h with h|h
  ·exact a.own B h
  ·exact .inr (Nat.le_trans a.size h)
 env:=⟨b.env.1.trans a.env.1,b.env.2.1.trans a.env.2.1,b.env.2.2.trans a.env.2.2⟩
 shp B hB ho arr t fr e:=by
  rcases b.own B ho with h|h
  ·obtain⟨a1,e1,s1⟩:=a.shp B hB h arr t fr e;obtain⟨a2,e2,s2⟩:=b.shp B (Nat.lt_of_lt_of_le hB a.size) ho a1 t fr e1;exact⟨a2,e2,s2.trans s1⟩
  ·have:=a.size;omega
theorem Go1.refl{ι:Io}{h:Hp}{w:World}{nx:Nat}(hr:Rel ι h nx w):Go1 ι h w ι h nx w:=⟨Le.refl _,hr,Nat.le_refl _,fun _ _ _=>rfl,fun _ h=>.inl h,⟨rfl,rfl,rfl⟩,fun _ _ _=>.same rfl⟩
theorem Rel.cell{ι:Io}{h:Hp}{nx:Nat}{w:World}(hr:Rel ι h nx w){b:Nat}{cs:Nat→AV}{n:Nat}(hb:h b=.c τ cs n){o:Nat}(ho:o<n){E:Ent}(hE:ι b=some E):
 ∃v,w.cell? ⟨E.b,E.d+o,none⟩=some v∧RV ι (cs o) v∧w.frozen? ⟨E.b,E.d+o,none⟩=false:=by
 obtain⟨E',hE',hB⟩:=hr.blk b (by rw[hb];rfl);rw[hE]at hE';cases hE';rw[hb]at hB;obtain⟨arr,ty,fr,h1,h2,h3,h4,h5⟩:=hB;obtain⟨v,hv,hR⟩:=h5 o ho;refine⟨v,?_,hR,?_⟩
 ·simp[World.cell?,h1,hv]
 ·have:=h4 o (by omega);simp only[World.frozen?,h1];cases hq:(decide (fr.1≤E.d+o) && decide (E.d+o<fr.2)) with
  |false=>simp
  |true=>simp at hq;exact absurd hq this
end Go.Proofs.YtglihimiidiacaaGreatDoor.Ev8
namespace Go.Proofs.YtglihimiidiacaaGreatDoor.Ev8
open Go
variable {τ τ':Option TypeId}
theorem BR.heap{ι:Io}{w w':World}{E:Ent}(hh:w'.heap[E.b]?=w.heap[E.b]?):∀{s:SB},BR ι w E s→BR ι w' E s
 |.no,_=>trivial
 |.m _es,⟨ms,k,h1,h2⟩=>⟨ms,k,hh.trans h1,h2⟩
 |.c _τ _cs _n,⟨arr,ty,fr,h1,h2⟩=>⟨arr,ty,fr,hh.trans h1,h2⟩
 |.lp ..,⟨f,t,D,h1,h2⟩=>⟨f,t,D,hh.trans h1,h2⟩
 |.o _,⟨arr,ty,fr,s,h1,h2⟩=>⟨arr,ty,fr,s,hh.trans h1,h2⟩
theorem BR.mono{ι ι':Io}{w:World}{E:Ent}(hl:Le ι ι'):∀{s:SB},BR ι w E s→BR ι' w E s
 |.no,_=>trivial
 |.m es,⟨ms,k,h1,h2,h3⟩=>⟨ms,k,h1,h2,fun i q hq=>by obtain⟨e,a,b,c,d⟩:=h3 i q hq;exact⟨e,a,b,c,d.mono hl⟩⟩
 |.c τ cs n,⟨arr,ty,fr,h1,h2,h3,h4,h5⟩=>⟨arr,ty,fr,h1,h2,h3,h4,fun i hi=>by obtain⟨v,a,b⟩:=h5 i hi;exact⟨v,a,b.mono hl⟩⟩
 |.lp ..,⟨f,t,D,h1,h2,h3⟩=>⟨f,t,D,h1,fun i=>(h2 i).mono hl,h3⟩
 |.o _,⟨arr,ty,fr,s,h1,h2,h3⟩=>⟨arr,ty,fr,s,h1,h2.mono hl,h3⟩
theorem Rel.of_heap{ι:Io}{h:Hp}{nx:Nat}{w w':World}(hr:Rel ι h nx w)(hh:w'.heap=w.heap):Rel ι h nx w' where
 blk b hb:=by obtain⟨E,h1,h2⟩:=hr.blk b hb;exact⟨E,h1,h2.heap (by rw[hh])⟩
 new:=hr.new
 apart:=hr.apart
 inn b E hE:=by rw[hh];exact hr.inn b E hE
theorem Go1.of_heap{ι:Io}{h:Hp}{nx:Nat}{w w':World}(hr:Rel ι h nx w)(hh:w'.heap=w.heap)(he:Env w w':=by exact⟨rfl,rfl,rfl⟩):Go1 ι h w ι h nx w':=
 ⟨Le.refl _,hr.of_heap hh,by rw[hh];exact Nat.le_refl _,fun _ _ _=>by rw[hh],fun _ h=>.inl h,he,fun _ _ _=>.same (by rw[hh])⟩
theorem Rel.kill{ι:Io}{h:Hp}{nx:Nat}{w:World}(hr:Rel ι h nx w)(b:Nat):Rel ι (upd h b .no) nx w where
 blk b' hb:=by
  by_cases e:b'=b
  ·subst e;rw[upd_same]at hb;cases hb
  ·rw[upd_ne _ e]at hb ⊢;exact hr.blk b' hb
 new:=hr.new
 apart b1 b2 E1 E2 h1 h2:=by
  by_cases e:b1=b
  ·subst e;rw[upd_same]at h1;cases h1
  ·by_cases e2:b2=b
   ·subst e2;rw[upd_same]at h2;cases h2
   ·rw[upd_ne _ e]at h1;rw[upd_ne _ e2]at h2;exact hr.apart b1 b2 E1 E2 h1 h2
 inn:=hr.inn
theorem Go1.kill{ι:Io}{h:Hp}{nx:Nat}{w:World}(hr:Rel ι h nx w)(b:Nat):Go1 ι h w ι (upd h b .no) nx w:=
 ⟨Le.refl _,hr.kill b,Nat.le_refl _,fun _ _ _=>rfl,fun B ⟨b',E,h1,h2⟩=>.inl ⟨b',E,by
  by_cases e:b'=b
  ·subst e;rw[upd_same]at h1;cases h1
  ·rw[upd_ne _ e]at h1;exact h1,h2⟩,⟨rfl,rfl,rfl⟩,fun _ _ _=>.same rfl⟩
theorem Go1.turn{ι:Io}{h:Hp}{nx:Nat}{w w':World}(hr:Rel ι h nx w){b:Nat}{E:Ent}(hE:ι b=some E)(hd:dead (h b)=false){s:SB}
 (hs:w'.heap.size=w.heap.size) (hk:∀B,B≠E.b→w'.heap[B]?=w.heap[B]?) (hB:BR ι w' E s) (hsh:dead s=false→Shp w w' E.b) (he:Env w w':=by exact⟨rfl,rfl,rfl⟩):Go1 ι h w ι (upd h b s) nx w' where
 env:=he
 shp B hB ho:=by
  by_cases e:B=E.b
  ·obtain⟨b',E',h1,h2,h3⟩:=ho;by_cases q:b'=b
   ·subst q e;rw[upd_same]at h1;exact hsh h1
   ·rw[upd_ne _ q]at h1;exact absurd (hr.apart b' b E' E h1 hd h2 hE (h3.trans e)) q
  ·exact .same (hk B e)
 le:=Le.refl _
 rel:={
  blk:=fun b' hb=>by
   by_cases e:b'=b
   ·subst e;rw[upd_same];exact⟨E,hE,hB⟩
   ·rw[upd_ne _ e]at hb ⊢;obtain⟨E',h1,h2⟩:=hr.blk b' hb;exact⟨E',h1,h2.heap (hk _ fun q=>e (hr.apart b' b E' E hb hd h1 hE q))⟩
  new:=hr.new
  apart:=fun b1 b2 E1 E2 h1 h2=>by
   have q:∀b1,dead (upd h b s b1)=false→dead (h b1)=false:=fun b1 h1=>by
    by_cases e:b1=b
    ·subst e;exact hd
    ·rwa[upd_ne _ e]at h1
   exact hr.apart b1 b2 E1 E2 (q _ h1) (q _ h2)
  inn:=fun b E hE=>by rw[hs];exact hr.inn b E hE}
 size:=by rw[hs];exact Nat.le_refl _
 keep B hB hn:=hk B fun q=>hn ⟨b,E,hd,hE,q.symm⟩
 own B:=fun⟨b',E',h1,h2⟩=>.inl ⟨b',E',by
  by_cases e:b'=b
  ·subst e;exact hd
  ·rwa[upd_ne _ e]at h1,h2⟩
theorem setCell_heap_ne(w:World)(a:Addr)(v:Value)(B:Nat)(h:B≠a.block):(w.setCell a v).heap[B]?=w.heap[B]?:=by
 simp only[World.setCell,Array.getElem?_modify];split
 ·rename_i e;exact absurd e.symm h
 ·rfl
theorem Rel.set{ι:Io}{h:Hp}{nx:Nat}{w:World}(hr:Rel ι h nx w){b:Nat}{cs:Nat→AV}{n:Nat}(hb:h b=.c τ cs n){o:Nat}(ho:o<n){E:Ent}(hE:ι b=some E){a:AV}{v:Value}(hv:RV ι a v):
 Go1 ι h w ι (upd h b (.c τ (upd cs o a) n)) nx (w.setCell ⟨E.b,E.d+o,none⟩ v):=by
 have hd:dead (h b)=false:=by rw[hb];rfl
 obtain⟨E',hE',hB⟩:=hr.blk b hd;rw[hE]at hE';cases hE';rw[hb]at hB;obtain⟨arr,ty,fr,h1,h2,h3,h4,h5⟩:=hB;refine Go1.turn hr hE hd (by simp[World.setCell]) (fun B hB=>setCell_heap_ne _ _ _ _ hB) ⟨arr.setIfInBounds (E.d+o) v,ty,fr,?_,by simpa using h2,h3,h4,fun i hi=>?_⟩ (fun _ arr t fr e=>?_)
 ·simp[World.setCell,Array.getElem?_modify,h1]
 ·by_cases e:i=o
  ·subst e;refine⟨v,?_,by rw[upd_same];exact hv⟩;rw[Array.getElem?_setIfInBounds_self_of_lt];omega
  ·obtain⟨u,hu,hR⟩:=h5 i hi;refine⟨u,?_,by rw[upd_ne _ e];exact hR⟩;rw[Array.getElem?_setIfInBounds_ne (by omega)];exact hu
 ·exact⟨arr.setIfInBounds (E.d+o) v,by simp[World.setCell,Array.getElem?_modify,e],by simp⟩
theorem Rel.lay{ι:Io}{h:Hp}{nx:Nat}{w w':World}(hr:Rel ι h nx w){E:Ent}{s:SB}(hEb:E.b=w.heap.size)
 (hs:w'.heap.size=w.heap.size+1) (hk:∀B,B<w.heap.size→w'.heap[B]?=w.heap[B]?) (hB:BR (upd ι nx (some E)) w' E s) (he:Env w w':=by exact⟨rfl,rfl,rfl⟩):
 Go1 ι h w (upd ι nx (some E)) (upd h nx s) (nx+1) w':=by
 have hle:Le ι (upd ι nx (some E)):=fun b e hb=>by
  by_cases q:b=nx
  ·subst q;rw[hr.new b (Nat.le_refl _)]at hb;cases hb
  ·rwa[upd_ne _ q]
 have hlt:∀b E',b≠nx→upd ι nx (some E) b=some E'→E'.b<w.heap.size:=fun b E' q hb=>by rw[upd_ne _ q]at hb;exact hr.inn b E' hb
 exact {
  env:=he
  shp:=fun B hB _=>.same (hk B hB)
  le:=hle
  rel:={
   blk:=fun b hb=>by
    by_cases q:b=nx
    ·subst q;rw[upd_same,upd_same];exact⟨E,rfl,hB⟩
    ·rw[upd_ne _ q]at hb;rw[upd_ne _ q,upd_ne _ q];obtain⟨E',h1,h2⟩:=hr.blk b hb;exact⟨E',h1,(h2.mono hle).heap (hk _ (hr.inn b E' h1))⟩
   new:=fun b hb=>by rw[upd_ne _ (by omega)];exact hr.new b (by omega)
   apart:=fun b1 b2 E1 E2 d1 d2 h1 h2 e=>by
    by_cases q1:b1=nx
    ·by_cases q2:b2=nx
     ·rw[q1,q2]
     ·have:=hlt b2 E2 q2 h2;rw[q1,upd_same]at h1;cases h1;omega
    ·by_cases q2:b2=nx
     ·have:=hlt b1 E1 q1 h1;rw[q2,upd_same]at h2;cases h2;omega
     ·rw[upd_ne _ q1]at d1 h1;rw[upd_ne _ q2]at d2 h2;exact hr.apart b1 b2 E1 E2 d1 d2 h1 h2 e
   inn:=fun b E' hb=>by
    by_cases q:b=nx
    ·rw[q,upd_same]at hb;cases hb;omega
    ·have:=hlt b E' q hb;omega}
  size:=by omega
  keep:=fun B hB _=>hk B hB
  own:=fun B ⟨b,E',h1,h2,h3⟩=>by
   by_cases q:b=nx
   ·rw[q,upd_same]at h2;cases h2;right;omega
   ·rw[upd_ne _ q]at h1 h2;exact .inl ⟨b,E',h1,h2,h3⟩}
end Go.Proofs.YtglihimiidiacaaGreatDoor.Ev8
namespace Go.Proofs.YtglihimiidiacaaGreatDoor.Ev8
open Go
def Rd(P:Program)(ι:Io)(w:World)(ev:Operand→Value)(o:Oper)(a:AV):Prop:=∃v,(execOp ev o).run P w=.ok (.value v) w∧RV ι a v
section
variable {τ τ':Option TypeId} {P:Program} {ι:Io} {h:Hp} {nx:Nat} {w:World} {ev:Operand→Value} {ρ:Operand→AV} {o:Oper}
theorem Addr_add(B D j:Nat):(⟨B,D,none⟩:Addr).add j=⟨B,D+j,none⟩:=by
 simp only[Addr.add];split<;>simp_all
theorem rd_move{x:Operand}(ho:o.op=.move x)(hx:RV ι (ρ x) (ev x)):Rd P ι w ev o (ρ x):=⟨ev x,by simp[execOp,ho,go_sem],hx⟩
theorem rd_assign{x:Operand}(ho:o.op=.assign x)(hx:RV ι (ρ x) (ev x)):Rd P ι w ev o (ρ x):=⟨ev x,by simp[execOp,ho,go_sem],hx⟩
theorem RV.bool{x:Bool}{v:Value}(h:RV ι (.b x) v):v=.bool x:=by simpa[RV,RL]using h
theorem RV.int{k:IntKind}{n:Int}{v:Value}(h:RV ι (.i k n) v):v=.int k n∧k.wrap n=n:=by simpa[RV,RL]using h
theorem RV.str{l n:Nat}{v:Value}(h:RV ι (.s l n) v):v=.string (bsOf l n):=by simpa[RV,RL]using h
theorem RV.ptr{b q:Nat}{v:Value}(h:RV ι (.ptr b q) v):∃E,ι b=some E∧v=.pointer (some ⟨E.b,E.d+q,none⟩):=by simpa[RV,RL]using h
theorem RV.vv{x v:Value}(h:RV ι (.v x) v):v=x:=by simpa[RV,RL]using h
theorem rd_pick{c x y:Operand}(ho:o.op=.pick c x y){t:Bool}(hc:RV ι (.b t) (ev c)){a:AV}(ha:RV ι a (if t then ev x else ev y)):Rd P ι w ev o a:=by
 refine⟨if t then ev x else ev y,?_,ha⟩;simp[execOp,ho,hc.bool,asBool,go_sem]
theorem rd_load1{t:TypeId}{x:Operand}(ho:o.op=.load t x)(hr:Rel ι h nx w){b q:Nat}(hx:RV ι (.ptr b q) (ev x)){cs:Nat→AV}{n:Nat}(hb:h b=.c τ cs n)(hq:q<n)
 (ht:∀w,(isAgg t).run P w=.ok false w):Rd P ι w ev o (cs q):=by
 obtain⟨E,hE,hv⟩:=hx.ptr;obtain⟨v,hc,hR,-⟩:=hr.cell hb hq hE;refine⟨v,?_,hR⟩;simp[execOp,ho,hv,Instr.loadAt,Instr.sureAddr,loadVar,ht,load,Sem.run,hc,go_sem]
theorem RL_mkL{f:Nat→AV}{g:Nat→Value}:∀(m q:Nat),(∀j,j<m→RV ι (f (q+j)) (g (q+j)))→RL ι (mkL ((List.range' q m).map f)) ((List.range' q m).map g)
 |0,q,_=>rfl
 |m+1,q,hh=>by
  simp only[List.range'_succ,List.map_cons,mkL];exact⟨g q,_,rfl,(show RV ι (f q) (g q) from by simpa using hh 0 (by omega)),RL_mkL m (q+1) fun j hj=>by have:=hh (j+1) (by omega);rwa[show q+(j+1)=q+1+j by omega]at this⟩
theorem rd_loadA{t:TypeId}{x:Operand}(ho:o.op=.load t x)(hr:Rel ι h nx w){b q m:Nat}(hx:RV ι (.ptr b q) (ev x)){cs:Nat→AV}{n:Nat}(hb:h b=.c τ cs n)(hq:q+m≤n)
 (ht:∀w,(isAgg t).run P w=.ok true w) (hz:∀w,(Go.sizeOf t).run P w=.ok m w):Rd P ι w ev o (.k 0 0 (mkL ((List.range' q m).map cs))):=by
 obtain⟨E,hE,hv⟩:=hx.ptr;have hc:∀j,j<m→∃v,w.cell? ⟨E.b,E.d+(q+j),none⟩=some v∧RV ι (cs (q+j)) v:=fun j hj=>by
  obtain⟨v,h1,h2,-⟩:=hr.cell hb (show q+j<n by omega) hE;exact⟨v,h1,h2⟩
 obtain⟨g,hg⟩:∃g:Nat→Value,∀j,j<m→w.cell? ⟨E.b,E.d+(q+j),none⟩=some (g (q+j))∧RV ι (cs (q+j)) (g (q+j)):=
  ⟨fun i=>((w.cell? ⟨E.b,E.d+i,none⟩).getD undef),fun j hj=>by obtain⟨v,h1,h2⟩:=hc j hj;simp[h1,h2]⟩
 have hl:=run_loadCells (P:=P) (w:=w) (⟨E.b,E.d+q,none⟩:Addr) m (fun j=>g (q+j)) fun j hj=>by
  have:=(hg j hj).1;rw[Addr_add,Nat.add_assoc];exact this
 simp only[loadCells]at hl;refine⟨.agg (((List.range m).map fun j=>g (q+j)).toArray),?_,?_⟩
 ·simp[execOp,ho,hv,Instr.loadAt,Instr.sureAddr,loadVar,ht,hz,hl,go_sem]
 ·have:=RL_mkL (ι:=ι) (f:=cs) (g:=g) m q fun j hj=>(hg j hj).2;refine⟨_,this,?_⟩;simp only[List.cons.injEq,Value.agg.injEq,and_true];congr 1
  rw[List.range'_eq_map_range,List.map_map];rfl
theorem rd_nil{x:Operand}(ho:o.op=.nilCheck x){b q:Nat}(hx:RV ι (.ptr b q) (ev x)):Rd P ι w ev o (.ptr b q):=by
 obtain⟨E,hE,hv⟩:=hx.ptr;refine⟨ev x,?_,hx⟩;simp[execOp,ho,hv,go_sem]
theorem rd_fld{s:TypeId}{x:Operand}{f:Nat}(ho:o.op=.fieldAddr s x f){b q:Nat}(hx:RV ι (.ptr b q) (ev x)){fs:Array Field}(hs:P.underlying s=some (.struct fs)){fl:Field}(hf:fs[f]?=some fl)
 {m:Nat} (hz:∀w,(Go.sizeOf fl.type).run P w=.ok m w) (hm:m≠0):Rd P ι w ev o (.ptr b (q+fl.offset)):=by
 obtain⟨E,hE,hv⟩:=hx.ptr;refine⟨.pointer (some ⟨E.b,E.d+(q+fl.offset),none⟩),?_,E,hE,rfl⟩;have hu:∀w,(underlying s).run P w=.ok (.struct fs) w:=fun w=>by simp[underlying,program,Sem.run,hs,pure,Bind.bind,Sem.bind]
 simp[execOp,ho,hv,Instr.fieldAt,Instr.sureAddr,hu,hf,fieldPlace,hz,hm,go_sem]
theorem run_und{t:TypeId}{d:TypeDesc}(h:P.underlying t=some d)(w:World):(underlying t).run P w=.ok d w:=by simp[underlying,program,Sem.run,h,pure,Bind.bind,Sem.bind]
theorem RV.sl{b e q k n:Nat}{c:Option Nat}{v:Value}(h:RV ι (.sl b e q k n c) v):∃E,ι b=some E∧n≤capOf E q c∧(c=none→E.c*e=E.r∧q≤E.c)∧
 v=.slice (some ⟨E.b,E.d+(if capOf E q c=0 then k else q)*e,none⟩) n (capOf E q c):=by
 obtain⟨E,h1,h2,h3,h4⟩:=h;exact⟨E,h1,h2,h3,by simpa using h4⟩
theorem rd_ixa{t:TypeId}{x y:Operand}(ho:o.op=.indexAddr t x y){b q:Nat}(hx:RV ι (.ptr b q) (ev x)){k:IntKind}{i:Nat}(hy:RV ι (.i k (.ofNat i)) (ev y)){len:Nat}{el:TypeId}
 (ht:P.underlying t=some (.array len el)) {m:Nat} (hz:∀w,(Go.sizeOf el).run P w=.ok m w) (hi:i<len):Rd P ι w ev o (.ptr b (q+i*m)):=by
 obtain⟨E,hE,hv⟩:=hx.ptr;refine⟨.pointer (some ⟨E.b,E.d+(q+i*m),none⟩),?_,E,hE,rfl⟩;simp[execOp,ho,hv,hy.int.1,Instr.indexAt,Instr.sureAddr,asIntOf,run_und ht,hz,hi,go_sem]
theorem rd_ixs{t:TypeId}{x y:Operand}(ho:o.op=.indexAddr t x y){b e q z n:Nat}{c:Option Nat}(hx:RV ι (.sl b e q z n c) (ev x)){k:IntKind}{i:Nat}(hy:RV ι (.i k (.ofNat i)) (ev y)){el:TypeId}
 (ht:P.underlying t=some (.slice el)) (hz:∀w,(Go.sizeOf el).run P w=.ok e w) (hi:i<n):Rd P ι w ev o (.ptr b ((q+i)*e)):=by
 obtain⟨E,hE,h1,-,hv⟩:=hx.sl;refine⟨.pointer (some ⟨E.b,E.d+((q+i)*e),none⟩),?_,E,hE,rfl⟩;rw[if_neg (by omega)]at hv;simp[execOp,ho,hv,hy.int.1,Instr.indexAt,asIntOf,run_und ht,hz,hi,go_sem];rw[Nat.add_mul];omega
theorem bsOf_size(l n:Nat):(bsOf l n).size=l:=by simp[bsOf,ByteArray.size]
theorem bsOf_get{l n i:Nat}(hi:i<l):(bsOf l n)[i]?=some (UInt8.ofNat (n / 256 ^ i % 256)):=by
 rw[getElem?_pos _ _ (by rw[bsOf_size];exact hi)];simp[bsOf,ByteArray.getElem_eq_getElem_data]
theorem wrap_u8{m:Nat}(h:m<256):IntKind.u8.wrap (.ofNat m)=.ofNat m:=by
 simp only[IntKind.wrap,IntKind.bits,IntKind.signed];simp;omega
theorem rd_idx{t:TypeId}{x y:Operand}(ho:o.op=.index t x y){l n:Nat}(hx:RV ι (.s l n) (ev x)){k:IntKind}{i:Nat}(hy:RV ι (.i k (.ofNat i)) (ev y))
 (ht:P.underlying t=some .string) (hi:i<l):Rd P ι w ev o (.i .u8 (.ofNat (n / 256 ^ i % 256))):=by
 refine⟨.int .u8 (.ofNat (n / 256 ^ i % 256)),?_,rfl,wrap_u8 (Nat.mod_lt _ (by omega))⟩;simp[execOp,ho,hx.str,hy.int.1,Instr.index,asIntOf,run_und ht,bsOf_get hi,go_sem]
theorem RV.tup{l:AV}{v:Value}{t:Nat}(h:RV ι (.k 1 t l) v):∃ws,RL ι l ws∧v=.tuple ws.toArray:=by obtain⟨ws,h1,h2⟩:=h;exact⟨ws,h1,by simpa using h2⟩
theorem RV.agg{l:AV}{v:Value}{t:Nat}(h:RV ι (.k 0 t l) v):∃ws,RL ι l ws∧v=.agg ws.toArray:=by obtain⟨ws,h1,h2⟩:=h;exact⟨ws,h1,by simpa using h2⟩
theorem RV.fn{l:AV}{v:Value}{t:Nat}(h:RV ι (.k 2 t l) v):∃ws,RL ι l ws∧v=.func (.func t) #[] ws.toArray:=by obtain⟨ws,h1,h2⟩:=h;exact⟨ws,h1,by simpa using h2⟩
theorem RV.ifc{l:AV}{v:Value}{t:Nat}(h:RV ι (.k 3 t l) v):∃u,RV ι l u∧v=.iface t u:=by
 obtain⟨ws,h1,u,h2,h3⟩:=h;subst h2;exact⟨u,h1,by simpa using h3⟩
def drp:Nat→AV→Option AV
 |0,l=>some l
 |n+1,.cons _ l=>drp n l
 |_+1,_=>none
theorem rl_drp:∀{n:Nat} {l m:AV} {ws:List Value},drp n l=some m→RL ι l ws→RL ι m (ws.drop n)∧n≤ws.length
 |0,l,m,ws,h,hr=>by cases h;exact⟨hr,Nat.zero_le _⟩
 |n+1,.cons x l,m,ws,h,⟨v,us,h1,h2,h3⟩=>by
  subst h1;obtain⟨a,b⟩:=rl_drp (n:=n) (l:=l) h h3;exact⟨a,by simpa using b⟩
theorem RL.hd{x l:AV}{ws:List Value}(h:RL ι (.cons x l) ws):∃v us,ws=v::us∧RV ι x v∧RL ι l us:=by
 obtain⟨v,us,h1,h2,h3⟩:=h;exact⟨v,us,h1,h2,h3⟩
theorem RL.nth{n:Nat}{l x m:AV}{ws:List Value}(h:drp n l=some (.cons x m))(hr:RL ι l ws):∃v,ws[n]?=some v∧RV ι x v:=by
 obtain⟨h1,h2⟩:=rl_drp h hr;obtain⟨v,us,h3,h4,-⟩:=h1.hd;refine⟨v,?_,h4⟩;have:(ws.drop n)[0]?=some v:=by rw[h3];rfl
 simpa using this
theorem rd_ext{x:Operand}{i:Nat}(ho:o.op=.extract x i){t:Nat}{l y m:AV}(hx:RV ι (.k 1 t l) (ev x))(hd:drp i l=some (.cons y m)):Rd P ι w ev o y:=by
 obtain⟨ws,h1,h2⟩:=hx.tup;obtain⟨v,h3,h4⟩:=RL.nth hd h1;exact⟨v,by simp[execOp,ho,h2,Instr.extract,h3,go_sem],h4⟩
theorem rd_ifc{x:Operand}{t:TypeId}(ho:o.op=.makeInterface t x){d:TypeDesc}(ht:P.underlying t=some d)(hd:∀m,d≠.interface m)(hx:RV ι (ρ x) (ev x)):Rd P ι w ev o (.k 3 t (ρ x)):=by
 refine⟨.iface t (ev x),?_,⟨[ev x],hx,ev x,rfl,rfl⟩⟩;cases d<;>simp[execOp,ho,Instr.makeInterface,run_und ht,go_sem]<;>exact absurd rfl (hd _)
theorem RL_of{l:List Operand}(hx:∀x,RV ι (ρ x) (ev x)):RL ι (mkL (l.map ρ)) (l.map ev):=by
 induction l with
 |nil=>rfl
 |cons x l ih=>exact⟨_,_,rfl,hx x,ih⟩
theorem rd_mkf{f:FuncId}{cap:Array Operand}(ho:o.op=.makeFunc (.func f) #[] cap)(hx:∀x,RV ι (ρ x) (ev x)):Rd P ι w ev o (.k 2 f (mkL (cap.toList.map ρ))):=by
 refine⟨.func (.func f) #[] (cap.map ev),?_,⟨_,RL_of hx,?_⟩⟩
 ·simp[execOp,ho,Instr.makeFunc,go_sem]
 ·simp[←Array.toList_map]
end
end Go.Proofs.YtglihimiidiacaaGreatDoor.Ev8
namespace Go.Proofs.YtglihimiidiacaaGreatDoor.Ev8
open Go
variable {P:Program} {ι:Io} {h:Hp} {nx:Nat} {w:World} {ev:Operand→Value} {ρ:Operand→AV} {o:Oper}
theorem purely_run{α:Type}:∀{s:Sem α} {a:α},purely P s=some a→∀w,s.run P w=.ok a w:=by
 intro s;induction s with
 |pure x=>intro a h w;simp only[purely,Option.some.injEq]at h;rw[h];rfl
 |program k ih=>intro a h w;exact ih P h w
 |mark m k ih=>intro a h w;exact ih h w
 |load _ _ _ _|store _ _ _ _ _|new _ _ _|shape _ _ _|freeze _ _ _ _|frozen _ _ _|getObj _ _ _|setObj _ _ _ _|choose _ _ _|sys _ _ _|halt _=>intro a h;simp[purely]at h
theorem sNat_get:∀(l:List UInt8) (i:Nat),i<l.length→sNat l / 256 ^ i % 256=(l[i]?.getD 0).toNat
 |[],i,h=>by simp at h
 |b::l,0,_=>by
  have:=b.toNat_lt;show(b.toNat+256*sNat l) / 1 % 256=_;simp
 |b::l,i+1,h=>by
  have hb:=b.toNat_lt;have:=sNat_get l i (by simpa using h);show(b.toNat+256*sNat l) / 256 ^ (i+1) % 256=_;rw[Nat.pow_succ,Nat.mul_comm (256 ^ i),←Nat.div_div_eq_div_mul,show(b.toNat+256*sNat l) / 256=sNat l by omega,this];simp
theorem bs_of(s:ByteArray):bsOf s.data.size (sNat s.data.toList)=s:=by
 cases s with
 |mk d=>
  simp only[bsOf];congr 1
  apply Array.toList_inj.1;simp only;apply List.ext_getElem
  ·simp
  ·intro i h1 h2;have hi:i<d.toList.length:=h2;simp only[List.getElem_map,List.getElem_range];rw[sNat_get _ _ hi];have:d.toList[i]?.getD 0=d.toList[i]:=by simp[List.getElem?_eq_getElem hi]
   rw[this];simp
theorem RV_of1(v:Value):RV ι (ofV1 v) v:=by
 cases v<;>simp only[ofV1];case int k n=>split;exact⟨rfl,by assumption⟩;exact⟨_,rfl⟩
 case string s=>show [Value.string s]=[Value.string (bsOf _ _)];rw[bs_of]
 all_goals rfl
theorem val1_eq{a:AV}{u v:Value}(h:val1 a=some u)(hr:RV ι a v):v=u:=by
 cases a<;>simp[val1]at h;case v x=>rw[hr.vv,h]
 case b x=>rw[hr.bool,h]
 case i k n=>rw[hr.int.1,h]
 case s l n=>rw[hr.str,h]
theorem rd_bin{op:BinOp}{t u:TypeId}{x y:Operand}(ho:o.op=.binOp op t x y u){a b v:Value}(hx:ev x=a)(hy:ev y=b)
 (hp:purely P (do eqGuard op t x y a b;binOp op t a b)=some v):Rd P ι w ev o (ofV1 v):=by
 refine⟨v,?_,RV_of1 v⟩;have:=purely_run hp w;simp only[execOp,ho,hx,hy];simp only[Sem.run_bind]at this ⊢;rw[this];rfl
theorem rd_un{op:UnOp}{t:TypeId}{x:Operand}(ho:o.op=.unOp op t x){a v:Value}(hx:ev x=a)(hp:purely P (Op.unary op a)=some v):Rd P ι w ev o (ofV1 v):=by
 refine⟨v,?_,RV_of1 v⟩;simp only[execOp,ho,hx,Sem.run_bind,purely_run hp w];rfl
theorem rd_cv{s d:TypeId}{x:Operand}(ho:o.op=.convert s d x){a v:Value}(hx:ev x=a)(hp:purely P (convert s d a)=some v):Rd P ι w ev o (ofV1 v):=by
 refine⟨v,?_,RV_of1 v⟩;simp only[execOp,ho,hx,Sem.run_bind,purely_run hp w];rfl
theorem rd_nilc{op:BinOp}{t u:TypeId}{x y:Operand}(ho:o.op=.binOp op t x y u){r:Bool}(hop:(op=.eql∧r=false)∨(op=.neq∧r=true)){a b:Value}(hx:ev x=a)(hy:ev y=b)
 (hc:(∃m tt v,P.underlying t=some (.interface m)∧((a=.iface tt v∧b=.nilIface)∨(a=.nilIface∧b=.iface tt v)))∨(∃e p l c l' c',P.underlying t=some (.slice e)∧a=.slice (some p) l c∧b=.slice none l' c')∨(∃e p,P.underlying t=some (.pointer e)∧a=.pointer (some p)∧b=.pointer none)):
 Rd P ι w ev o (.b r):=by
 refine⟨.bool r,?_,rfl⟩;have hg:(eqGuard op t x y a b).run P w=.ok () w:=by
  rcases hc with⟨m,tt,v,ht,(⟨rfl,rfl⟩|⟨rfl,rfl⟩)⟩|⟨e,p,l,c,l',c',ht,rfl,rfl⟩|⟨e,p,ht,rfl,rfl⟩<;>rcases hop with⟨rfl,rfl⟩|⟨rfl,rfl⟩<;>rfl
 have he:(Op.equal t a b).run P w=.ok false w:=by
  obtain⟨d,hd⟩:∃d,Op.maxDepth=d+1:=⟨9999,rfl⟩;unfold Op.equal;rw[hd];rcases hc with⟨m,tt,v,ht,(⟨rfl,rfl⟩|⟨rfl,rfl⟩)⟩|⟨e,p,l,c,l',c',ht,rfl,rfl⟩|⟨e,p,ht,rfl,rfl⟩<;>simp only[Op.equalIn,Sem.run_bind,run_und ht]<;>rfl
 have hb:(binOp op t a b).run P w=.ok (.bool r) w:=by
  rcases hc with⟨m,tt,v,ht,(⟨rfl,rfl⟩|⟨rfl,rfl⟩)⟩|⟨e,p,l,c,l',c',ht,rfl,rfl⟩|⟨e,p,ht,rfl,rfl⟩<;>rcases hop with⟨rfl,rfl⟩|⟨rfl,rfl⟩<;>simp only[binOp,Sem.run_bind,he]<;>rfl
 simp only[execOp,ho,hx,hy,Sem.run_bind,hg,hb,Result.andThen];rfl
theorem rd_len{args:Array Operand}{ts:Array TypeId}{x:Operand}{t:TypeId}(ho:o.op=.call {callee:=.builtin .len,args:=args,argTypes:=ts})(ha:args=#[x])(htt:ts[0]?=some t){n:Nat}
 (hc:(∃l m,P.underlying t=some .string∧RV ι (.s l m) (ev x)∧n=l)∨(∃e b sz q z c,P.underlying t=some (.slice e)∧RV ι (.sl b sz q z n c) (ev x))∨(∃e c,P.underlying t=some (.slice e)∧ev x=.slice none n c))
 (hn:IntKind.i64.wrap (.ofNat n)=.ofNat n):Rd P ι w ev o (.i .i64 (.ofNat n)):=by
 refine⟨.int .i64 (.ofNat n),?_,rfl,hn⟩;subst ha;rcases hc with⟨l,m,ht,hx,rfl⟩|⟨e,b,sz,q,z,c,ht,hx⟩|⟨e,c,ht,hx⟩
 ·simp[execOp,ho,resolve,invoke,builtin,Builtin.len_,htt,hx.str,run_und ht,bsOf_size,goInt,go_sem]
 ·obtain⟨E,-,-,-,hv⟩:=hx.sl;simp[execOp,ho,resolve,invoke,builtin,Builtin.len_,htt,hv,run_und ht,goInt,go_sem]
 ·simp[execOp,ho,resolve,invoke,builtin,Builtin.len_,htt,hx,run_und ht,goInt,go_sem]
end Go.Proofs.YtglihimiidiacaaGreatDoor.Ev8
namespace Go.Proofs.YtglihimiidiacaaGreatDoor.Ev8
open Go
variable {P:Program} {ι:Io} {h:Hp} {nx:Nat} {w:World} {ev:Operand→Value} {ρ:Operand→AV} {o:Oper}
theorem dig_inj:∀(l:Nat) {a b:Nat},a<256 ^ l→b<256 ^ l→(∀i,i<l→a / 256 ^ i % 256=b / 256 ^ i % 256)→a=b
 |0,a,b,ha,hb,_=>by simp at ha hb;omega
 |l+1,a,b,ha,hb,hh=>by
  have h0:a % 256=b % 256:=by simpa using hh 0 (by omega)
  have h1:a / 256=b / 256:=dig_inj l (by rw[Nat.pow_succ]at ha;omega) (by rw[Nat.pow_succ]at hb;omega) fun i hi=>by
   have:=hh (i+1) (by omega);rwa[Nat.pow_succ,Nat.mul_comm (256 ^ i),←Nat.div_div_eq_div_mul,←Nat.div_div_eq_div_mul]at this
  omega
theorem bsOf_list(l n:Nat):(bsOf l n).data.toList=(List.range l).map fun i=>UInt8.ofNat (n / 256 ^ i % 256):=by simp[bsOf]
theorem bsOf_inj{la a lb b:Nat}(ha:a<256 ^ la)(hb:b<256 ^ lb)(h:bsOf la a=bsOf lb b):la=lb∧a=b:=by
 have hl:la=lb:=by have:=congrArg ByteArray.size h;rwa[bsOf_size,bsOf_size]at this
 subst hl;refine⟨rfl,dig_inj la ha hb fun i hi=>?_⟩;have:=congrArg (fun s:ByteArray=>s[i]?) h;simp only[bsOf_get hi,Option.some.injEq]at this;have:=congrArg UInt8.toNat this;simpa using this
theorem ba_ext{x y:ByteArray}(hs:x.size=y.size)(hg:∀i,i<x.size→x[i]?=y[i]?):x=y:=by
 cases x with|mk a=>cases y with|mk b=>
 congr 1
 have hs':a.size=b.size:=hs;apply Array.ext hs';intro i h1 h2;have:=hg i h1;rw[getElem?_pos (ByteArray.mk a) i h1,getElem?_pos (ByteArray.mk b) i h2]at this;simpa[ByteArray.getElem_eq_getElem_data]using this
theorem dig_mod{x m i:Nat}(hi:i<m):x % 256 ^ m / 256 ^ i % 256=x / 256 ^ i % 256:=by
 obtain⟨k,rfl⟩:∃k,m=i+(k+1):=⟨m-i-1,by omega⟩;rw[Nat.pow_add,Nat.mod_mul_right_div_self,Nat.mod_mod_of_dvd _ ⟨256 ^ k,by rw[Nat.pow_succ,Nat.mul_comm]⟩]
theorem bsOf_extract{l n p z:Nat}(h1:p≤z)(h2:z≤l):(bsOf l n).extract p z=bsOf (z-p) (n / 256 ^ p % 256 ^ (z-p)):=by
 apply ba_ext
 ·rw[ByteArray.size_extract,bsOf_size,bsOf_size];omega
 ·intro i hi;rw[ByteArray.size_extract,bsOf_size]at hi;rw[bsOf_get (by omega),dig_mod (by omega),Nat.div_div_eq_div_mul,←Nat.pow_add,←bsOf_get (l:=l) (by omega)];rw[getElem?_pos _ _ (by rw[ByteArray.size_extract,bsOf_size];omega),getElem?_pos _ _ (by rw[bsOf_size];omega)];simp[ByteArray.getElem_eq_getElem_data]
theorem bsOf_append{la a lb b:Nat}(ha:a<256 ^ la):bsOf la a++bsOf lb b=bsOf (la+lb) (a+b*256 ^ la):=by
 apply ba_ext
 ·rw[ByteArray.size_append,bsOf_size,bsOf_size,bsOf_size]
 ·intro i hi;rw[ByteArray.size_append,bsOf_size,bsOf_size]at hi;rw[bsOf_get hi];rw[getElem?_pos _ _ (by rw[ByteArray.size_append,bsOf_size,bsOf_size];omega)];by_cases hl:i<la
  ·rw[ByteArray.getElem_append_left (by rw[bsOf_size];exact hl),←getElem?_pos,bsOf_get hl];congr 2
   obtain⟨k,rfl⟩:∃k,la=i+(k+1):=⟨la-i-1,by omega⟩;rw[Nat.pow_add,←Nat.mul_assoc,Nat.mul_right_comm,Nat.add_mul_div_right _ _ (Nat.pow_pos (by omega)),Nat.pow_succ,←Nat.mul_assoc,Nat.add_mul_mod_self_right]
  ·rw[ByteArray.getElem_append_right (by rw[bsOf_size];omega),←getElem?_pos,bsOf_size,bsOf_get (by omega)];congr 2
   obtain⟨k,rfl⟩:∃k,i=la+k:=⟨i-la,by omega⟩;rw[Nat.pow_add,←Nat.div_div_eq_div_mul,Nat.add_mul_div_right _ _ (Nat.pow_pos (by omega)),Nat.div_eq_of_lt ha,Nat.zero_add,Nat.add_sub_cancel_left]
end Go.Proofs.YtglihimiidiacaaGreatDoor.Ev8
namespace Go.Proofs.YtglihimiidiacaaGreatDoor.Ev8
open Go
variable {P:Program} {ι:Io} {h:Hp} {nx:Nat} {w:World} {ev:Operand→Value} {ρ:Operand→AV} {o:Oper}
def bl(l n:Nat):List UInt8:=(List.range l).map fun i=>UInt8.ofNat (n / 256 ^ i % 256)
theorem bl_succ(l n:Nat):bl (l+1) n=UInt8.ofNat (n % 256)::bl l (n / 256):=by
 simp only[bl,List.range_succ_eq_map,List.map_cons,List.map_map];congr 1
 ·simp
 ·apply List.map_congr_left;intro i _;simp only[Function.comp];rw[Nat.pow_succ,Nat.mul_comm (256 ^ i),←Nat.div_div_eq_div_mul]
theorem toList_bs(l n:Nat):(bsOf l n).toList=bl l n:=by rw[ByteArray.toList_eq,bsOf_list];rfl
theorem u8_lt{x y:Nat}(hx:x<256)(hy:y<256):(UInt8.ofNat x<UInt8.ofNat y)↔x<y:=by
 rw[UInt8.lt_iff_toNat_lt];simp;omega
theorem u8_eq{x y:Nat}(hx:x<256)(hy:y<256):(UInt8.ofNat x=UInt8.ofNat y)↔x=y:=by
 constructor
 ·intro h;have:=congrArg UInt8.toNat h;simp at this;omega
 ·rintro rfl;rfl
theorem less_eq:∀(f la a lb b:Nat),la<f→lessS f la a lb b=Op.bytesLess (bl la a) (bl lb b)
 |f+1,la,a,0,b,_=>by cases la<;>simp[lessS,bl,Op.bytesLess]
 |f+1,0,a,lb+1,b,_=>by rw[bl_succ];simp[lessS,bl,Op.bytesLess]
 |f+1,la+1,a,lb+1,b,hf=>by
  have ih:=less_eq f la (a / 256) lb (b / 256) (by omega);have ha:a % 256<256:=Nat.mod_lt _ (by omega);have hb:b % 256<256:=Nat.mod_lt _ (by omega);rw[bl_succ,bl_succ];simp only[lessS,Op.bytesLess];by_cases h1:a % 256<b % 256
  ·have e1:Nat.blt (a.mod 256) (b.mod 256)=true:=by rw[Nat.blt_eq];exact h1
   rw[e1];simp[(u8_lt ha hb).2 h1]
  ·have e1:Nat.blt (a.mod 256) (b.mod 256)=false:=by
    cases hq:Nat.blt (a.mod 256) (b.mod 256) with
    |false=>rfl
    |true=>rw[Nat.blt_eq]at hq;exact absurd hq h1
   rw[e1];have h1':¬(UInt8.ofNat (a % 256)<UInt8.ofNat (b % 256)):=fun h=>h1 ((u8_lt ha hb).1 h);by_cases h2:a % 256=b % 256
   ·have e2:Nat.beq (a.mod 256) (b.mod 256)=true:=by rw[Nat.beq_eq];exact h2
    rw[e2];simp only[cond_false,cond_true];rw[show a.div 256=a / 256 from rfl,show b.div 256=b / 256 from rfl,ih,h2];simp
   ·have e2:Nat.beq (a.mod 256) (b.mod 256)=false:=by
     cases hq:Nat.beq (a.mod 256) (b.mod 256) with
     |false=>rfl
     |true=>exact absurd (Nat.eq_of_beq_eq_true hq) h2
    have h2':¬(UInt8.ofNat (a % 256)=UInt8.ofNat (b % 256)):=fun h=>h2 ((u8_eq ha hb).1 h);rw[e2];simp[h1',h2']
theorem bl_eq{la a lb b:Nat}(ha:a<256 ^ la)(hb:b<256 ^ lb):(bl la a==bl lb b)=(Nat.beq la lb && Nat.beq a b):=by
 have:bl la a=bl lb b↔(la=lb∧a=b):=⟨fun h=>bsOf_inj ha hb (by
  rw[←toList_bs,←toList_bs,ByteArray.toList_eq,ByteArray.toList_eq]at h;cases hx:bsOf la a with|mk x=>cases hy:bsOf lb b with|mk y=>rw[hx,hy]at h;congr 1;exact Array.toList_inj.1 h),fun⟨h1,h2⟩=>by rw[h1,h2]⟩
 rw[Bool.eq_iff_iff,beq_iff_eq,this,Bool.and_eq_true,Nat.beq_eq,Nat.beq_eq]
theorem tot_less:∀(x y:List UInt8),(Op.bytesLess x y||x==y)=!(Op.bytesLess y x)
 |[],[]=>by simp[Op.bytesLess]
 |[],_::_=>by simp[Op.bytesLess]
 |_::_,[]=>by simp[Op.bytesLess]
 |a::x,b::y=>by
  have ih:=tot_less x y;simp only[Op.bytesLess];rcases(show a<b∨a=b∨b<a from by rw[UInt8.lt_iff_toNat_lt,UInt8.lt_iff_toNat_lt,←UInt8.toNat_inj];omega) with h|h|h
  ·have h1:¬b<a:=UInt8.lt_asymm h;have h2:b≠a:=fun e=>by subst e;exact UInt8.lt_irrefl _ h
   simp[h,h1,h2]
  ·subst h;have:¬a<a:=UInt8.lt_irrefl _;simpa[this]using ih
  ·have h1:¬a<b:=UInt8.lt_asymm h;have h2:a≠b:=fun e=>by subst e;exact UInt8.lt_irrefl _ h
   simp[h,h1,h2]
theorem rd_strB{op:BinOp}{t u:TypeId}{x y:Operand}(ho:o.op=.binOp op t x y u){la a lb b:Nat}(hx:RV ι (.s la a) (ev x))(hy:RV ι (.s lb b) (ev y))(ha:a<256 ^ la)(hb:b<256 ^ lb){r:Bool}
 (hs:strB op la a lb b=some r):Rd P ι w ev o (.b r):=by
 refine⟨.bool r,?_,rfl⟩;have hg:(eqGuard op t x y (ev x) (ev y)).run P w=.ok () w:=by
  rw[hx.str,hy.str];cases op<;>rfl
 have hbn:(binOp op t (ev x) (ev y)).run P w=.ok (.bool r) w:=by
  rw[hx.str,hy.str];have l1:=less_eq (la+1) la a lb b (by omega);have l2:=less_eq (lb+1) lb b la a (by omega);have q:=bl_eq ha hb;have tot:(Op.bytesLess (bl la a) (bl lb b)||bl la a==bl lb b)=!(Op.bytesLess (bl lb b) (bl la a)):=by
   exact tot_less _ _
  cases op<;>simp only[strB,Option.some.injEq,reduceCtorEq]at hs<;>subst hs<;>(first|rfl|skip)<;>simp only[binOp,Op.stringOp,toList_bs,Sem.run_pure]<;>first|(rw[tot,l2];done)|(rw[tot,l2,Bool.not_not];done)|(rw[q];done)|(rw[l1];done)
 simp only[execOp,ho,Sem.run_bind,hg,hbn,Result.andThen];rfl
theorem rd_strA{t u:TypeId}{x y:Operand}(ho:o.op=.binOp .add t x y u){la a lb b:Nat}(hx:RV ι (.s la a) (ev x))(hy:RV ι (.s lb b) (ev y))(ha:a<256 ^ la)(hl:la+lb≤9223372036854775807):
 Rd P ι w ev o (.s (la+lb) (a+b*256 ^ la)):=by
 refine⟨.string (bsOf la a++bsOf lb b),?_,by show [Value.string _]=[Value.string _];rw[bsOf_append ha]⟩;have hg:(eqGuard .add t x y (ev x) (ev y)).run P w=.ok () w:=rfl;have hb:(binOp .add t (ev x) (ev y)).run P w=.ok (.string (bsOf la a++bsOf lb b)) w:=by
  rw[hx.str,hy.str,binOp_string_add];exact run_string_add_sum _ (bsOf la a) (bsOf lb b) (by rw[bsOf_size,bsOf_size];exact hl)
 simp only[execOp,ho,Sem.run_bind,hg,hb,Result.andThen];rfl
theorem rd_str{t:TypeId}{x:Operand}{lo hi:Option Operand}(ho:o.op=.slice t x lo hi none)(ht:P.underlying t=some .string){l n p z:Nat}(hx:RV ι (.s l n) (ev x))
 (hlo:(lo=none∧p=0)∨∃y k,lo=some y∧ev y=.int k (.ofNat p)) (hhi:(hi=none∧z=l)∨∃y k,hi=some y∧ev y=.int k (.ofNat z)) (h1:p≤z) (h2:z≤l):
 Rd P ι w ev o (.s (z-p) (n / 256 ^ p % 256 ^ (z-p))):=by
 refine⟨.string ((bsOf l n).extract p z),?_,by show [Value.string _]=[Value.string _];rw[bsOf_extract h1 h2]⟩;rcases hlo with⟨rfl,rfl⟩|⟨y,k,rfl,hy⟩<;>rcases hhi with⟨rfl,rfl⟩|⟨y',k',rfl,hy'⟩<;>
  simp[execOp,Instr.sliceAt,Instr.slice,run_und ht,hx.str,bsOf_size,Instr.sliceBounds,Instr.sliceBound,asIntOf,go_sem, *]
 rw[bsOf_extract (Nat.zero_le _) (Nat.le_refl _)];apply ba_ext
 ·rw[bsOf_size,bsOf_size];rfl
 ·intro i hi;rw[bsOf_size]at hi;rw[bsOf_get hi,bsOf_get (by omega),Nat.sub_zero,dig_mod hi];simp
end Go.Proofs.YtglihimiidiacaaGreatDoor.Ev8
namespace Go.Proofs.YtglihimiidiacaaGreatDoor.Ev8
open Go
variable {P:Program} {ι:Io} {h:Hp} {nx:Nat} {w:World} {ev:Operand→Value} {ρ:Operand→AV} {o:Oper}
def tke:Nat→AV→Option AV
 |0,_=>some .nil
 |n+1,.cons x l=>(tke n l).map (.cons x)
 |_+1,_=>none
def oN(ev:Operand→Value)(x:Option Operand)(d n:Nat):Prop:=(x=none∧n=d)∨∃y k,x=some y∧ev y=.int k (.ofNat n)
theorem run_bnds{isS:Bool}{len cap l hh m:Nat}{lo hi mx:Option Operand}(hlo:oN ev lo 0 l)(hhi:oN ev hi len hh)(hmx:oN ev mx cap m)(h0:mx.isSome→hi.isSome)(h1:l≤hh)(h2:hh≤m)(h3:m≤cap):
 (Instr.sliceBounds isS len cap (lo.map ev) (hi.map ev) (mx.map ev)).run P w=.ok (l,hh,m) w:=by
 rcases hlo with⟨rfl,rfl⟩|⟨y,k,rfl,hy⟩<;>rcases hhi with⟨rfl,rfl⟩|⟨y',k',rfl,hy'⟩<;>rcases hmx with⟨rfl,rfl⟩|⟨y'',k'',rfl,hy''⟩<;>
  simp[Instr.sliceBounds,Instr.sliceBound,asIntOf,go_sem, *]at*
theorem sl_val{b e q k n l hh m:Nat}{c:Option Nat}{a:AV}{x:Value}{full:Bool}(hx:RV ι (.sl b e q k n c) x)
 (hs:sliceV b e q k n c l hh (if full then some m else none)=some a):∃E C,ι b=some E∧C=capOf E q c∧x=.slice (some ⟨E.b,E.d+(if C=0 then k else q)*e,none⟩) n C∧l≤hh∧hh≤n∧n≤C∧(full=true→hh≤m∧m≤C)∧
  RV ι a (.slice (some (if (if full then m else C)=l then ⟨E.b,E.d+(if C=0 then k else q)*e,none⟩ else ⟨E.b,E.d+(if C=0 then k else q)*e+l*e,none⟩)) (hh-l) ((if full then m else C)-l)):=by
 obtain⟨E,h1,h2,h3,h4⟩:=hx.sl;refine⟨E,capOf E q c,h1,rfl,h4,?_⟩;cases full with
 |false=>
  simp only[sliceV,Bool.false_eq_true,if_false]at hs ⊢;cases hc:(Nat.ble hh n && Nat.ble l hh) with
  |false=>rw[hc]at hs;cases hs
  |true=>
   rw[hc]at hs;simp only[Bool.and_eq_true,Nat.ble_eq]at hc;simp only[cond_true,Option.some.injEq]at hs;subst hs;refine⟨hc.2,hc.1,h2,by simp,E,h1,?_,?_,?_⟩
   ·cases c with
    |none=>have:=h3 rfl;simp only[capOf]at h2 ⊢;show hh.sub l≤E.c-(q.add l);simp only[Nat.sub_eq,Nat.add_eq];omega
    |some c0=>simp only[capOf]at h2 ⊢;show hh.sub l≤c0.sub l;simp only[Nat.sub_eq];omega
   ·intro he;cases c with
    |none=>have:=h3 rfl;refine⟨this.1,?_⟩;simp only[capOf]at h2;show q.add l≤E.c;simp only[Nat.add_eq];omega
    |some c0=>cases he
   ·have e1:capOf E (q.add l) (subO l c)=capOf E q c-l:=by
     cases c with
     |none=>simp only[capOf];show E.c-(q.add l)=_;simp only[Nat.add_eq];omega
     |some c0=>simp only[capOf];rfl
    rw[e1];show [Value.slice _ _ _]=[Value.slice _ (hh.sub l) _];simp only[Nat.sub_eq,Nat.add_eq,List.cons.injEq,Value.slice.injEq,and_true,Option.some.injEq];by_cases hC:capOf E q c=l
    ·rw[if_pos hC,if_pos (show capOf E q c-l=0 by omega)];by_cases hl:l=0
     ·subst hl;rw[if_pos hC];simp[Nat.beq]
     ·rw[if_neg (by omega)];have:Nat.beq l 0=false:=by cases hq:Nat.beq l 0 with|false=>rfl|true=>exact absurd (Nat.eq_of_beq_eq_true hq) hl
      rw[this];rfl
    ·rw[if_neg hC,if_neg (show ¬capOf E q c-l=0 by omega),if_neg (show ¬capOf E q c=0 by omega),Nat.add_mul,Nat.add_assoc]
 |true=>
  simp only[sliceV,if_true]at hs ⊢;cases hc:(Nat.ble hh n && Nat.ble l hh) with
  |false=>rw[hc]at hs;cases hs
  |true=>
   rw[hc]at hs;simp only[Bool.and_eq_true,Nat.ble_eq]at hc;simp only[cond_true]at hs;cases hd:((Nat.ble m n && Nat.ble hh m) && (!(Nat.beq l 0)||Nat.beq k q)) with
   |false=>rw[hd]at hs;cases hs
   |true=>
    rw[hd]at hs;simp only[Bool.and_eq_true,Nat.ble_eq,Bool.or_eq_true,Bool.not_eq_true',Nat.beq_eq]at hd;simp only[cond_true,Option.some.injEq]at hs;subst hs;obtain⟨⟨d1,d2⟩,d3⟩:=hd;refine⟨hc.2,hc.1,h2,fun _=>⟨d2,by omega⟩,E,h1,?_,by simp,?_⟩
    ·show hh.sub l≤m.sub l;simp only[Nat.sub_eq];omega
    ·show [Value.slice _ _ _]=[Value.slice _ (hh.sub l) (m.sub l)];simp only[Nat.sub_eq,Nat.add_eq,List.cons.injEq,Value.slice.injEq,and_true,Option.some.injEq];show _=(⟨E.b,E.d+(if m-l=0 then q else q+l)*e,none⟩:Addr);have hk:capOf E q c=0→k=q:=fun h0=>by
      rcases d3 with h|h
      ·have:l=0:=by omega
       subst this;simp[Nat.beq]at h
      ·exact h
     by_cases hm:m=l
     ·rw[if_pos hm,if_pos (show m-l=0 by omega)];by_cases h0:capOf E q c=0
      ·rw[if_pos h0,hk h0]
      ·rw[if_neg h0]
     ·rw[if_neg hm,if_neg (show ¬m-l=0 by omega),if_neg (show ¬capOf E q c=0 by omega),Nat.add_mul,Nat.add_assoc]
theorem rd_sls{t:TypeId}{x:Operand}{lo hi mx:Option Operand}(ho:o.op=.slice t x lo hi mx){el:TypeId}(ht:P.underlying t=some (.slice el)){b e q k n:Nat}{c:Option Nat}(hz:∀w,(Go.sizeOf el).run P w=.ok e w)
 (hx:RV ι (.sl b e q k n c) (ev x)) {l hh m:Nat} (hlo:oN ev lo 0 l) (hhi:oN ev hi n hh) (hmx:mx.isSome→oN ev mx 0 m) (h0:mx.isSome→hi.isSome) {a:AV} (hs:sliceV b e q k n c l hh (if mx.isSome then some m else none)=some a):Rd P ι w ev o a:=by
 obtain⟨E,C,h1,h2,h3,h4,h5,h6,h7,h8⟩:=sl_val (full:=mx.isSome) hx hs;refine⟨_,?_,h8⟩;have hb:(Instr.sliceBounds true n C (lo.map ev) (hi.map ev) (mx.map ev)).run P w=.ok (l,hh,if mx.isSome then m else C) w:=by
  cases mx with
  |none=>exact run_bnds hlo hhi (.inl ⟨rfl,rfl⟩) h0 h4 (by simp;omega) (by simp)
  |some z=>
   rcases hmx rfl with⟨h,-⟩|h
   ·cases h
   ·exact run_bnds hlo hhi (.inr h) h0 h4 (h7 rfl).1 (h7 rfl).2
 have e1:(Instr.sliceAt t (ev x) (lo.map ev) (hi.map ev) (mx.map ev)).run P w=.ok (.slice (some (if (if mx.isSome then m else C)=l then ⟨E.b,E.d+(if C=0 then k else q)*e,none⟩ else ⟨E.b,E.d+(if C=0 then k else q)*e+l*e,none⟩)) (hh-l) ((if mx.isSome then m else C)-l)) w:=by
  rw[h3];simp only[Instr.sliceAt,Instr.slice,Sem.run_bind,run_und ht,Result.andThen,hb,hz,Sem.run_pure,Option.map_some,Addr_add];congr 2
  exact(apply_ite some _ _ _).symm
 simp only[execOp,ho,Sem.run_bind,e1,Result.andThen];rfl
theorem RL.take:∀{n:Nat} {l m:AV} {ws:List Value},tke n l=some m→RL ι l ws→RL ι m (ws.take n)∧n≤ws.length
 |0,l,m,ws,h,hr=>by simp only[tke,Option.some.injEq]at h;subst h;exact⟨rfl,Nat.zero_le _⟩
 |n+1,.cons x l,m,ws,h,⟨v,us,h1,h2,h3⟩=>by
  subst h1;simp only[tke]at h;cases ht:tke n l with
  |none=>rw[ht]at h;cases h
  |some m'=>
   rw[ht]at h;simp only[Option.map_some,Option.some.injEq]at h;subst h;obtain⟨a,b⟩:=RL.take ht h3;exact⟨⟨v,us.take n,rfl,h2,a⟩,by simpa using b⟩
theorem run_partA{t:TypeId}{off n:Nat}{l d m:AV}{ws:List Value}(hl:RL ι l ws)(hd:drp off l=some d)(ht:∀w,(isAgg t).run P w=.ok true w)(hz:∀w,(Go.sizeOf t).run P w=.ok n w)(hm:tke n d=some m):
 ∃v,(part t ws.toArray off).run P w=.ok v w∧RV ι (.k 0 0 m) v:=by
 obtain⟨h1,h2⟩:=rl_drp hd hl;obtain⟨h3,h4⟩:=RL.take hm h1;refine⟨.agg (ws.toArray.extract off (off+n)),by simp only[part,Sem.run_bind,ht,hz,Result.andThen,if_true,Sem.run_pure],?_⟩;refine⟨_,h3,?_⟩;simp[List.take_drop]
theorem run_part1{t:TypeId}{off:Nat}{l x m:AV}{ws:List Value}(hl:RL ι l ws)(hd:drp off l=some (.cons x m))(ht:∀w,(isAgg t).run P w=.ok false w):∃v,(part t ws.toArray off).run P w=.ok v w∧RV ι x v:=by
 obtain⟨v,h1,h2⟩:=RL.nth hd hl;refine⟨v,?_,h2⟩;simp only[part,Sem.run_bind,ht,Result.andThen];simp[h1,go_sem]
theorem rd_fie{s:TypeId}{x:Operand}{f:Nat}(ho:o.op=.field s x f){fs:Array Field}(hs:P.underlying s=some (.struct fs)){fl:Field}(hf:fs[f]?=some fl){z:Nat}{l a:AV}(hx:RV ι (.k 0 z l) (ev x))
 (hp:∀ws,RL ι l ws→∃v,(part fl.type ws.toArray fl.offset).run P w=.ok v w∧RV ι a v):Rd P ι w ev o a:=by
 obtain⟨ws,h1,h2⟩:=hx.agg;obtain⟨v,h3,h4⟩:=hp ws h1;refine⟨v,?_,h4⟩;simp only[execOp,ho,Sem.run_bind,Instr.field,run_und hs,Result.andThen,hf,h2,asAgg,Sem.run_pure,h3]
theorem rd_iaa{t:TypeId}{x y:Operand}(ho:o.op=.index t x y){len:Nat}{el:TypeId}(ht:P.underlying t=some (.array len el)){z e i:Nat}{l a:AV}(hx:RV ι (.k 0 z l) (ev x)){k:IntKind}(hy:RV ι (.i k (.ofNat i)) (ev y))(hi:i<len)
 (hz:∀w,(Go.sizeOf el).run P w=.ok e w) (hp:∀ws,RL ι l ws→∃v,(part el ws.toArray (i*e)).run P w=.ok v w∧RV ι a v):Rd P ι w ev o a:=by
 obtain⟨ws,h1,h2⟩:=hx.agg;obtain⟨v,h3,h4⟩:=hp ws h1;refine⟨v,?_,h4⟩;have hc:(0:Int)≤Int.ofNat i∧Int.ofNat i<(len:Int):=⟨by simp,by simpa using hi⟩;simp only[execOp,ho,Sem.run_bind,Instr.index,run_und ht,Result.andThen,h2,hy.int.1,asIntOf,Sem.run_pure,if_pos hc,hz];rw[show(Int.ofNat i).toNat=i from rfl,h3]
theorem rd_ta{x:Operand}{u t:TypeId}{ok:Bool}(ho:o.op=.typeAssert x u t ok){d:TypeDesc}(ht:P.underlying t=some d)(hd:∀m,d≠.interface m){a:AV}(hx:RV ι (.k 3 t a) (ev x)):Rd P ι w ev o (if ok then .k 1 0 (.cons a (.cons (.b true) .nil)) else a):=by
 obtain⟨v,h1,h2⟩:=hx.ifc;refine⟨if ok then .tuple #[v,.bool true] else v,?_,?_⟩
 ·cases d<;>simp[execOp,ho,h2,Instr.typeAssert,run_und ht,go_sem]<;>exact absurd rfl (hd _)
 ·cases ok
  ·exact h1
  ·exact⟨[v,.bool true],⟨v,_,rfl,h1,_,_,rfl,rfl,rfl⟩,rfl⟩
theorem rd_tan{x:Operand}{u t:TypeId}(ho:o.op=.typeAssert x u t true){d:TypeDesc}(ht:P.underlying t=some d)(hd:∀m,d≠.interface m){z:Value}(hz:∀w,(zeroValue t).run P w=.ok z w){a:AV}(ha:RV ι a z)
 (hx:ev x=.nilIface∨∃s v,ev x=.iface s v∧s≠t):Rd P ι w ev o (.k 1 0 (.cons a (.cons (.b false) .nil))):=by
 refine⟨.tuple #[z,.bool false],?_,⟨[z,.bool false],⟨z,_,rfl,ha,_,_,rfl,rfl,rfl⟩,rfl⟩⟩;rcases hx with hx|⟨s,v,hx,hne⟩
 ·cases d<;>simp[execOp,ho,hx,Instr.typeAssert,run_und ht,hz,go_sem]<;>exact absurd rfl (hd _)
 ·cases d<;>simp[execOp,ho,hx,Instr.typeAssert,run_und ht,hz,hne,go_sem]<;>exact absurd rfl (hd _)
end Go.Proofs.YtglihimiidiacaaGreatDoor.Ev8
namespace Go.Proofs.YtglihimiidiacaaGreatDoor.Ev8
open Go
variable {τ τ':Option TypeId} {P:Program} {ι:Io} {h:Hp} {nx:Nat} {w:World} {ev:Operand→Value} {ρ:Operand→AV} {o:Oper}
theorem opv_one{g:Nat}{E:Ent}{v:Value}(h:opv g E=some v):oneV v=true:=by
 unfold opv at h;split at h
 ·cases h;rfl
 ·cases h;rfl
 ·unfold opn at h;split at h
  ·cases h;rfl
  ·split at h
   ·cases h;rfl
   ·split at h
    ·cases h;rfl
    ·cases h
theorem oneA_v{a:AV}{v:Value}(h:oneA a=true)(hr:RV ι a v):oneV v=true:=by
 cases a with
 |un=>cases h
 |nil=>cases h
 |cons x l=>cases h
 |v x=>rw[hr.vv];exact h
 |r g b=>
  obtain⟨E,-,u,h2,h3⟩:=hr;simp only[List.cons.injEq,and_true]at h3;subst h3;exact opv_one h2
 |k g t l=>
  obtain⟨ws,-,h2⟩:=hr;match g,h with
  |0,h=>cases h
  |1,h=>cases h
  |2,_=>simp only[List.cons.injEq,and_true]at h2;rw[h2];rfl
  |3,_=>obtain⟨u,-,h3⟩:=h2;simp only[List.cons.injEq,and_true]at h3;rw[h3];rfl
  |4,_=>obtain⟨bs,-,h3⟩:=h2;simp only[List.cons.injEq,and_true]at h3;rw[h3];rfl
  |5,_=>exact h2.elim
  |6,_=>obtain⟨z,ub,-,-,-,-,h3⟩:=h2;simp only[List.cons.injEq,and_true]at h3;rw[h3];rfl
  |7,_=>obtain⟨s,-,h3⟩:=h2;simp only[List.cons.injEq,and_true]at h3;rw[h3];rfl
  |8,_=>obtain⟨E,s,-,-,h3⟩:=h2;simp only[List.cons.injEq,and_true]at h3;rw[h3];rfl
  |g+9,_=>exact h2.elim
 |s l n=>rw[hr.str];rfl
 |sl b e q k n c=>obtain⟨E,-,-,-,h4⟩:=hr.sl;rw[h4];rfl
 |ptr b q=>obtain⟨E,-,h2⟩:=hr.ptr;rw[h2];rfl
 |b x=>rw[hr.bool];rfl
 |i k n=>rw[hr.int.1];rfl
theorem run_store1{v:Value}(hv:oneV v=true){a:Addr}{u:Value}(hc:w.cell? a=some u)(hf:w.frozen? a=false):(store a v).run P w=.ok () (w.setCell a v):=by
 cases v<;>first|(simp[oneV]at hv;done)|(simp only[store,Sem.run,hc,hf];rfl)
theorem upd_upd{α:Type}(f:Nat→α)(k:Nat)(x y:α):upd (upd f k x) k y=upd f k y:=by funext i;simp only[upd];split<;>rfl
theorem upd_self{α:Type}(f:Nat→α)(k:Nat):upd f k (f k)=f:=by funext i;simp only[upd];split<;>simp_all
def stS(cs:Nat→AV):Nat→AV→Option (Nat→AV)
 |_,.nil=>some cs
 |q,.cons x l=>if oneA x then stS (upd cs q x) (q+1) l else none
 |_,_=>none
theorem run_stS:∀{l:AV} {cs cs':Nat→AV} {i D:Nat} {h:Hp} {w:World} {vs:List Value} {b n:Nat} {E:Ent},stS cs (D+i) l=some cs'→RL ι l vs→Rel ι h nx w→h b=.c τ cs n→D+i+vs.length≤n→ι b=some E→
 ∃w',(storeCells ⟨E.b,E.d+D,none⟩ vs i).run P w=.ok () w'∧Go1 ι h w ι (upd h b (.c τ cs' n)) nx w':=by
 intro l;induction l with
 |nil=>
  intro cs cs' i D h w vs b n E hs hl hr hb hn hE;simp only[stS,Option.some.injEq]at hs;subst hs;have:vs=[]:=hl;subst this;exact⟨w,rfl,by rw[←hb,upd_self];exact Go1.refl hr⟩
 |cons x l _ ih=>
  intro cs cs' i D h w vs b n E hs hl hr hb hn hE;obtain⟨v,ws,rfl,h1,h2⟩:=hl;simp only[stS]at hs;split at hs
  ·rename_i ho
   have hq:D+i<n:=by simp at hn;omega
   obtain⟨u,hc,-,hf⟩:=hr.cell hb hq hE;have g1:=hr.set hb hq hE h1;obtain⟨w',r1,g2⟩:=ih (i:=i+1) (D:=D) (h:=upd h b (.c τ (upd cs (D+i) x) n)) (w:=w.setCell ⟨E.b,E.d+(D+i),none⟩ v) (b:=b) (n:=n) (E:=E) (by rw[←Nat.add_assoc];exact hs) h2 g1.rel (by rw[upd_same]) (by simp at hn;omega) hE;rw[upd_upd]at g2;refine⟨w',?_,g1.trans g2⟩;have e1:(⟨E.b,E.d+D,none⟩:Addr).add i=⟨E.b,E.d+(D+i),none⟩:=by rw[Addr_add,Nat.add_assoc]
   simp only[storeCells,Sem.run_bind,e1,run_store1 (oneA_v ho h1) hc hf,Result.andThen];exact r1
  ·cases hs
 |_=>intro cs cs' i D h w vs b n E hs;simp[stS]at hs
def Wr(P:Program)(ι:Io)(h:Hp)(w:World)(ev:Operand→Value)(o:Oper)(a:AV)(h':Hp)(nx':Nat):Prop:=
 ∃r w' ι' v,(execOp ev o).run P w=.ok r w'∧(r=.value v∨(r=.skip∧v=undef))∧RV ι' a v∧Go1 ι h w ι' h' nx' w'
theorem wr_st1{t:TypeId}{x y:Operand}(ho:o.op=.store t x y)(hr:Rel ι h nx w){b q:Nat}{a:AV}(hx:RV ι (.ptr b q) (ev x))(hy:RV ι a (ev y))(h1:oneA a=true){cs:Nat→AV}{n:Nat}(hb:h b=.c τ cs n)(hq:q<n)
 (hz:∀w,(Go.sizeOf t).run P w=.ok 1 w):Wr P ι h w ev o (.v undef) (upd h b (.c τ (upd cs q a) n)) nx:=by
 obtain⟨E,hE,hv⟩:=hx.ptr;obtain⟨u,hc,-,hf⟩:=hr.cell hb hq hE;refine⟨.skip,_,ι,undef,?_,.inr ⟨rfl,rfl⟩,rfl,hr.set hb hq hE hy⟩;have hone:=oneA_v h1 hy;have hcl:(ev y).cells=#[ev y]:=by cases he:ev y<;>simp[Value.cells];rw[he]at hone;cases hone
 have e1:(⟨E.b,E.d+q,none⟩:Addr).add 0=⟨E.b,E.d+q,none⟩:=by rw[Addr_add];rfl
 simp only[execOp,ho,hv,Instr.storeAt,Instr.sureAddr,storeVar,Sem.run_bind,Sem.run_pure,Result.andThen,hz,hcl];simp only[storeCells,e1];simp[go_sem];rw[run_store1 hone hc hf]
theorem wr_stA{t:TypeId}{x y:Operand}(ho:o.op=.store t x y)(hr:Rel ι h nx w){b q m z:Nat}{l:AV}(hx:RV ι (.ptr b q) (ev x))(hy:RV ι (.k 0 z l) (ev y)){cs cs':Nat→AV}{n:Nat}(hb:h b=.c τ cs n)
 (hs:stS cs q l=some cs') (hl:∀vs,RL ι l vs→vs.length=m) (hq:q+m≤n) (hz:∀w,(Go.sizeOf t).run P w=.ok m w):Wr P ι h w ev o (.v undef) (upd h b (.c τ cs' n)) nx:=by
 obtain⟨E,hE,hv⟩:=hx.ptr;obtain⟨vs,h1,h2⟩:=hy.agg;have hm:=hl vs h1;obtain⟨w',r1,g1⟩:=run_stS (P:=P) (nx:=nx) (i:=0) (D:=q) hs h1 hr hb (by omega) hE;refine⟨.skip,w',ι,undef,?_,.inr ⟨rfl,rfl⟩,rfl,g1⟩;simp only[execOp,ho,hv,Instr.storeAt,Instr.sureAddr,storeVar,Sem.run_bind,Sem.run_pure,Result.andThen,hz,h2,Value.cells];simp only[List.size_toArray,hm,ne_eq,not_true_eq_false,if_false,r1]
def nthA:AV→Nat→AV
 |.cons x _,0=>x
 |.cons _ l,i+1=>nthA l i
 |_,_=>.un
def lenL':AV→Option Nat
 |.nil=>some 0
 |.cons _ l=>(lenL' l).map (·+1)
 |_=>none
theorem RL.len:∀{l:AV} {vs:List Value} {n:Nat},lenL' l=some n→RL ι l vs→vs.length=n∧∀i,i<n→∃v,vs[i]?=some v∧RV ι (nthA l i) v:=by
 intro l;induction l with
 |nil=>intro vs n h hr;simp only[lenL',Option.some.injEq]at h;have:vs=[]:=hr;subst this;subst h;exact⟨rfl,fun i hi=>by omega⟩
 |cons x l _ ih=>
  intro vs n h hr;obtain⟨v,ws,rfl,h1,h2⟩:=hr;simp only[lenL']at h;cases hq:lenL' l with
  |none=>rw[hq]at h;cases h
  |some m=>
   rw[hq]at h;simp only[Option.map_some,Option.some.injEq]at h;subst h;obtain⟨a,b⟩:=ih hq h2;refine⟨by simp[a],fun i hi=>?_⟩;cases i with
   |zero=>exact⟨v,rfl,h1⟩
   |succ i=>obtain⟨u,c,d⟩:=b i (by omega);exact⟨u,by simpa using c,d⟩
 |_=>intro vs n h;simp[lenL']at h
theorem Rel.row{w':World}(hr:Rel ι h nx w){l:AV}{vs ws:List Value}{n:Nat}(hl:lenL' l=some n)(hR:RL ι l vs){t:TypeId}{fr:Nat×Nat}(hw:w'.heap=w.heap.push (.cells (vs++ws).toArray t fr))(hf:∀i,i<n+ws.length→¬(fr.1≤i∧i<fr.2))(c:Nat)(he:Env w w':=by exact⟨rfl,rfl,rfl⟩):
 Go1 ι h w (upd ι nx (some ⟨w.heap.size,0,c,n+ws.length⟩)) (upd h nx (.c (some t) (nthA l) n)) (nx+1) w':=by
 obtain⟨h1,h2⟩:=RL.len hl hR;have hle:Le ι (upd ι nx (some ⟨w.heap.size,0,c,n+ws.length⟩)):=fun b e hb=>by
  by_cases q:b=nx
  ·subst q;rw[hr.new b (Nat.le_refl _)]at hb;cases hb
  ·rwa[upd_ne _ q]
 refine hr.lay rfl (by rw[hw];simp) (fun B hB=>by rw[hw,Array.getElem?_push_lt hB,Array.getElem?_eq_getElem hB]) ⟨(vs++ws).toArray,t,fr,by rw[hw];simp,by simp[h1],by simp,fun i hi=>by simpa using hf i hi,fun i hi=>?_⟩ he;obtain⟨v,a,b⟩:=h2 i hi;exact⟨v,by simp[List.getElem?_append_left (show i<vs.length by omega),a],b.mono hle⟩
theorem wr_all{t:TypeId}(ho:o.op=.alloc t)(hr:Rel ι h nx w){z:Value}(hz:∀w,(zeroValue t).run P w=.ok z w){l:AV}{n:Nat}(hl:lenL' l=some n)(hR:RL ι l z.cells.toList):
 Wr P ι h w ev o (.ptr nx 0) (upd h nx (.c (some t) (nthA l) n)) (nx+1):=by
 have g:=hr.row (w':={w with heap:=w.heap.push (.cells z.cells t)}) (ws:=[]) (t:=t) (fr:=(0,0)) hl hR (by simp) (fun i _=>by simp) 0;refine⟨_,_,_,.pointer (some ⟨w.heap.size,0,none⟩),?_,.inl rfl,⟨_,upd_same _ _ _,rfl⟩,g⟩;simp only[execOp,ho,Instr.alloc,Sem.run_bind,hz,Result.andThen];rfl
theorem wr_box{t:TypeId}{x:Operand}(ho:o.op=.box t x)(hr:Rel ι h nx w){l:AV}{n:Nat}(hl:lenL' l=some n)(hR:RL ι l (ev x).cells.toList):
 Wr P ι h w ev o (.ptr nx 0) (upd h nx (.c (some t) (nthA l) n)) (nx+1):=by
 have g:=hr.row (w':={w with heap:=w.heap.push (.cells (ev x).cells t)}) (ws:=[]) (t:=t) (fr:=(0,0)) hl hR (by simp) (fun i _=>by simp) 0;refine⟨_,_,_,.pointer (some ⟨w.heap.size,0,none⟩),?_,.inl rfl,⟨_,upd_same _ _ _,rfl⟩,g⟩;simp only[execOp,ho,Instr.box];rfl
theorem wr_mkm{t:TypeId}(ho:o.op=.makeMap t none)(hr:Rel ι h nx w):Wr P ι h w ev o (.r 0 nx) (upd h nx (.m [])) (nx+1):=by
 refine⟨.value (.map (some w.heap.size)),{w with heap:=w.heap.push (.map #[] 0)},upd ι nx (some ⟨w.heap.size,0,0,0⟩),_,?_,.inl rfl,⟨_,upd_same _ _ _,_,rfl,rfl⟩,hr.lay rfl (by simp) (fun B hB=>by simp[Array.getElem?_push_lt hB,Array.getElem?_eq_getElem hB]) ⟨#[],0,by simp,rfl,fun i q hq=>by simp at hq⟩⟩;simp only[execOp,ho,Instr.makeMap];rfl
end Go.Proofs.YtglihimiidiacaaGreatDoor.Ev8
namespace Go.Proofs.YtglihimiidiacaaGreatDoor.Ev8
open Go
variable {P:Program} {ι:Io} {h:Hp} {nx:Nat} {w:World} {ev:Operand→Value} {ρ:Operand→AV} {o:Oper}
theorem run_askRoom(b:Nat)(w:World):(askRoom b).run P w=.ok () w:=by unfold askRoom;split<;>rfl
theorem run_info{t:TypeId}{i:TypeInfo}(hi:P.info? t=some i)(w:World):(typeInfo t).run P w=.ok i w:=by simp[typeInfo,program,Sem.run,hi,pure,Bind.bind,Sem.bind]
structure ApT (P:Program) (ts:Array TypeId) (el:TypeId) (i:TypeInfo) (z:Value):Prop where
 t0:∃t,ts[0]?=some t∧P.underlying t=some (.slice el)
 t1:∀u,ts[1]?=some u→∃d,P.underlying u=some d∧∀k,d≠.int k
 inf:P.info? el=some i
 zero:i.zero=some z
 zsz:z.cells.size=i.size
theorem run_grow{ts:Array TypeId}{ty el:TypeId}{i:TypeInfo}{z:Value}(T:ApT P ts el i z){base:Option Addr}{n cap m:Nat}{x:Value}{old new:Array Value}
 (hl:∀w,(Builtin.lenOf x).run P w=.ok m w) (ho:∀w',w'.heap=w.heap→(Builtin.firstCells i.size n (.slice base n cap)).run P w'=.ok old w') (hn:∀w',w'.heap=w.heap→(Builtin.firstCells i.size m x).run P w'=.ok new w')
 (hlt:cap<n+m) (hb:(n+m)*i.bytes≤140737488355328) (hm:((n+m:Nat):Int)≤IntKind.i64.max):
 ∃newCap w',n+m≤newCap∧(Builtin.append_ ts ty #[.slice base n cap,x]).run P w=.ok (.slice (some ⟨w.heap.size,0,none⟩) (n+m) newCap) w'∧w'.heap=w.heap.push (.cells (old++new++Builtin.zeroCells z.cells (newCap-(n+m))) el)∧Env w w':=by
 obtain⟨t,ht,hu⟩:=T.t0;have hq:=growslice_fits (old:=cap) hlt hb;refine⟨Question.cut (.appendCap (n+m) cap el) (w.tape w.drawn (.appendCap (n+m) cap el)),{w with drawn:=w.drawn+1,heap:=w.heap.push (.cells (old++new++Builtin.zeroCells z.cells (Question.cut (.appendCap (n+m) cap el) (w.tape w.drawn (.appendCap (n+m) cap el))-(n+m))) el)},by simp only[Question.cut];omega,?_,rfl,rfl,rfl,rfl⟩;have ho':=ho {w with drawn:=w.drawn+1} rfl;have hn':=hn {w with drawn:=w.drawn+1} rfl;have hc:(choose (.appendCap (n+m) cap el)).run P w=.ok (Question.cut (.appendCap (n+m) cap el) (w.tape w.drawn (.appendCap (n+m) cap el))) {w with drawn:=w.drawn+1}:=rfl;have hnb:¬(Builtin.nextslicecap (n+m) cap*i.bytes>2 ^ 48):=by rw[show(2:Nat) ^ 48=281474976710656 by decide];omega
 have hmi:¬(((n+m:Nat):Int)>IntKind.i64.max∧(False∨i.bytes=0)):=fun q=>by have:=q.1;omega
 have hcap:¬(n+m≤cap):=by omega
 have hzv:∀w,(zeroValue el).run P w=.ok z w:=fun w=>by simp[zeroValue,Sem.run_bind,run_info T.inf,Result.andThen,T.zero]
 cases h1:ts[1]? with
 |none=>
  simp only[Builtin.append_,List.getElem?_toArray,List.getElem?_cons_zero,List.getElem?_cons_succ,ht,h1,Sem.run_bind,run_und hu,Result.andThen,Go.sizeOf,run_info T.inf,Sem.run_pure,Bool.false_eq_true,if_false,hl,if_neg hcap,if_neg hmi,if_neg hnb,hc,run_askRoom,ho',hn',Bool.not_false,if_true,hzv];rfl
 |some u=>
  obtain⟨d,hd,hk⟩:=T.t1 u h1;have hmt:(match d with|.int _=>true|_=>false)=false:=by cases d<;>first|rfl|exact absurd rfl (hk _)
  simp only[Builtin.append_,List.getElem?_toArray,List.getElem?_cons_zero,List.getElem?_cons_succ,ht,h1,Sem.run_bind,run_und hu,run_und hd,Result.andThen,Go.sizeOf,run_info T.inf,Sem.run_pure];simp only[Bool.false_eq_true,if_false,Sem.run_bind,Result.andThen,hl,if_neg hcap,if_neg hmi,if_neg hnb,hc,run_askRoom,ho',hn',Bool.not_false,if_true,hzv,run_info T.inf,Sem.run_pure];rfl
end Go.Proofs.YtglihimiidiacaaGreatDoor.Ev8
namespace Go.Proofs.YtglihimiidiacaaGreatDoor.Ev8
open Go
variable {τ τ':Option TypeId} {P:Program} {ι:Io} {h:Hp} {nx:Nat} {w:World} {ev:Operand→Value} {ρ:Operand→AV} {o:Oper}
def oneL:AV→Bool
 |.nil=>true
 |.cons x l=>oneA x && oneL l
 |_=>false
theorem oneL_v:∀{l:AV} {vs:List Value},oneL l=true→RL ι l vs→∀v∈vs,oneV v=true:=by
 intro l;induction l with
 |nil=>intro vs _ hr v hv;have:vs=[]:=hr;subst this;cases hv
 |cons x l _ ih=>
  intro vs h hr v hv;obtain⟨u,ws,rfl,h1,h2⟩:=hr;simp only[oneL,Bool.and_eq_true]at h;rcases List.mem_cons.1 hv with rfl|hv
  ·exact oneA_v h.1 h1
  ·exact ih h.2 h2 v hv
 |_=>intro vs h;cases h
theorem run_stW:∀{vs:List Value} {i D B:Nat} {w:World} {arr:Array Value} {ty:TypeId} {fr:Nat×Nat},w.heap[B]?=some (.cells arr ty fr)→D+i+vs.length≤arr.size→(∀j,j<vs.length→¬(fr.1≤D+i+j∧D+i+j<fr.2))→(∀v∈vs,oneV v=true)→
 ∃w' arr',(storeCells ⟨B,D,none⟩ vs i).run P w=.ok () w'∧w'.heap[B]?=some (.cells arr' ty fr)∧arr'.size=arr.size∧w'.heap.size=w.heap.size∧(∀B',B'≠B→w'.heap[B']?=w.heap[B']?)∧
  (∀j,j<D+i∨D+i+vs.length≤j→arr'[j]?=arr[j]?)∧(∀j v,vs[j]?=some v→arr'[D+i+j]?=some v)∧Env w w':=by
 intro vs;induction vs with
 |nil=>intro i D B w arr ty fr hw _ _ _;exact⟨w,arr,rfl,hw,rfl,rfl,fun _ _=>rfl,fun _ _=>rfl,(fun j v h=>by cases h),rfl,rfl,rfl⟩
 |cons v vs ih=>
  intro i D B w arr ty fr hw hs hf h1;simp only[List.length_cons]at hs;have hc:w.cell? ⟨B,D+i,none⟩=some arr[D+i]:=by simp[World.cell?,hw,Array.getElem?_eq_getElem (show D+i<arr.size by omega)]
  have hz:w.frozen? ⟨B,D+i,none⟩=false:=by
   have:=hf 0 (by simp);simp only[World.frozen?,hw];cases hq:(decide (fr.1≤D+i) && decide (D+i<fr.2)) with
   |false=>simp
   |true=>simp at hq;exact absurd hq (by simpa using this)
  have hw1:(w.setCell ⟨B,D+i,none⟩ v).heap[B]?=some (.cells (arr.setIfInBounds (D+i) v) ty fr):=by simp[World.setCell,Array.getElem?_modify,hw]
  obtain⟨w',arr',r1,r2,r3,r4,r5,r6,r7,r8⟩:=ih (i:=i+1) (D:=D) hw1 (by simp;omega) (fun j hj=>by have:=hf (j+1) (by simp;omega);rwa[show D+i+(j+1)=D+(i+1)+j by omega]at this) (fun u hu=>h1 u (List.mem_cons_of_mem _ hu));refine⟨w',arr',?_,r2,by rw[r3];simp,by rw[r4];simp[World.setCell],fun B' hB=>(r5 B' hB).trans (setCell_heap_ne _ _ _ _ hB),fun j hj=>?_,fun j u hu=>?_,r8⟩
  ·simp only[storeCells,Sem.run_bind,Addr_add,run_store1 (h1 v (List.mem_cons_self ..)) hc hz,Result.andThen];exact r1
  ·simp only[List.length_cons]at hj;rw[r6 j (by omega),Array.getElem?_setIfInBounds_ne (by omega)]
  ·cases j with
   |zero=>
    simp only[List.getElem?_cons_zero,Option.some.injEq]at hu;subst hu;rw[r6 _ (by omega),Nat.add_zero,Array.getElem?_setIfInBounds_self_of_lt (by omega)]
   |succ j=>
    have:=r7 j u (by simpa using hu);rwa[show D+i+(j+1)=D+(i+1)+j by omega]
def Src(P:Program)(ι:Io)(w:World)(e:Nat)(x:Value)(l:AV)(m:Nat):Prop:=
 (∀w,(Builtin.lenOf x).run P w=.ok m w)∧∃new:Array Value,(∀w',w'.heap=w.heap→(Builtin.firstCells e m x).run P w'=.ok new w')∧RL ι l new.toList∧lenL' l=some (m*e)
theorem lenL_mkL:∀(l:List AV),lenL' (mkL l)=some l.length
 |[]=>rfl
 |a::l=>by simp[mkL,lenL',lenL_mkL l]
theorem src_nil{e c:Nat}:Src P ι w e (.slice none 0 c) .nil 0:=⟨fun w=>rfl,#[],fun w' _=>rfl,rfl,by simp[lenL']⟩
theorem src_sl{b e q k n:Nat}{c:Option Nat}{x:Value}(hx:RV ι (.sl b e q k n c) x)(hr:Rel ι h nx w){cs:Nat→AV}{nb m:Nat}(hb:h b=.c τ cs nb)(hm:m≤n)(hq:q*e+m*e≤nb):
 ∃E C,x=.slice (some E) n C∧∃new:Array Value,(∀w',w'.heap=w.heap→(Builtin.firstCells e m x).run P w'=.ok new w')∧RL ι (mkL ((List.range' (q*e) (m*e)).map cs)) new.toList:=by
 obtain⟨E,hE,h1,h2,hv⟩:=hx.sl;have hc:∀j,j<m*e→∃v,w.cell? ⟨E.b,E.d+(q*e+j),none⟩=some v∧RV ι (cs (q*e+j)) v:=fun j hj=>by
  obtain⟨v,a1,a2,-⟩:=hr.cell hb (show q*e+j<nb by omega) hE;exact⟨v,a1,a2⟩
 obtain⟨g,hg⟩:∃g:Nat→Value,∀j,j<m*e→w.cell? ⟨E.b,E.d+(q*e+j),none⟩=some (g (q*e+j))∧RV ι (cs (q*e+j)) (g (q*e+j)):=
  ⟨fun i=>((w.cell? ⟨E.b,E.d+i,none⟩).getD undef),fun j hj=>by obtain⟨v,h1,h2⟩:=hc j hj;simp[h1,h2]⟩
 refine⟨_,_,hv,((List.range (m*e)).map fun j=>g (q*e+j)).toArray,fun w' hw=>?_,?_⟩
 ·subst hv;by_cases hm0:m=0
  ·subst hm0;simp[Builtin.firstCells,loadCells,loadCellsFrom,go_sem]
  ·rw[if_neg (show ¬capOf E q c=0 by omega)];simp only[Builtin.firstCells];refine run_loadCells (P:=P) (w:=w') (⟨E.b,E.d+q*e,none⟩:Addr) (m*e) (fun j=>g (q*e+j)) fun j hj=>?_;have:=(hg j hj).1;rw[Addr_add,Nat.add_assoc];simp only[World.cell?,hw]at this ⊢;exact this
 ·have:=RL_mkL (ι:=ι) (f:=cs) (g:=g) (m*e) (q*e) fun j hj=>(hg j hj).2;rw[List.range'_eq_map_range,List.map_map,List.map_map]at this;rw[List.range'_eq_map_range,List.map_map];exact this
theorem ap_args{args:Array Operand}{ts:Array TypeId}{x y:Operand}(ho:o.op=.call {callee:=.builtin .append,args:=args,argTypes:=ts})(ha:args=#[x,y]){v:Value}{w':World}
 (hr:(Builtin.append_ ts o.type #[ev x,ev y]).run P w=.ok v w'):(execOp ev o).run P w=.ok (.value v) w':=by
 subst ha;simp only[execOp,ho,resolve,Sem.run_bind,Sem.run_pure,Result.andThen,invoke,builtin];have e1:(#[x,y].map ev)=#[ev x,ev y]:=by simp
 rw[e1,hr]
theorem Rel.ent(hr:Rel ι h nx w){b:Nat}{cs:Nat→AV}{n:Nat}(hb:h b=.c τ cs n){E:Ent}(hE:ι b=some E):
 ∃arr ty fr,w.heap[E.b]?=some (.cells arr (τ.getD ty) fr)∧E.d+E.r=arr.size∧n≤E.r∧(∀i,i<E.r→¬(fr.1≤E.d+i∧E.d+i<fr.2))∧∀i,i<n→∃v,arr[E.d+i]?=some v∧RV ι (cs i) v:=by
 obtain⟨E',hE',hB⟩:=hr.blk b (by rw[hb];rfl);rw[hE]at hE';cases hE';rw[hb]at hB;exact hB
theorem run_in{ts:Array TypeId}{ty el:TypeId}{i:TypeInfo}{z:Value}(T:ApT P ts el i z){B D n cap m:Nat}{x:Value}{new:Array Value}(hl:∀w,(Builtin.lenOf x).run P w=.ok m w)(hn:(Builtin.firstCells i.size m x).run P w=.ok new w)
 (hle:n+m≤cap) {w':World} (hst:(storeCells (⟨B,D+n*i.size,none⟩:Addr) new.toList).run P w=.ok () w'):(Builtin.append_ ts ty #[.slice (some ⟨B,D,none⟩) n cap,x]).run P w=.ok (.slice (some ⟨B,D,none⟩) (n+m) cap) w':=by
 obtain⟨t,ht,hu⟩:=T.t0;cases h1:ts[1]? with
 |none=>
  simp only[Builtin.append_,List.getElem?_toArray,List.getElem?_cons_zero,List.getElem?_cons_succ,ht,h1,Sem.run_bind,run_und hu,Result.andThen,Go.sizeOf,run_info T.inf,Sem.run_pure,Bool.false_eq_true,if_false,hl,if_pos hle,hn,Bool.not_false,if_true,Addr_add,hst]
 |some u=>
  obtain⟨d,hd,hk⟩:=T.t1 u h1;have hmt:(match d with|.int _=>true|_=>false)=false:=by cases d<;>first|rfl|exact absurd rfl (hk _)
  simp only[Builtin.append_,List.getElem?_toArray,List.getElem?_cons_zero,List.getElem?_cons_succ,ht,h1,Sem.run_bind,run_und hu,run_und hd,Result.andThen,Go.sizeOf,run_info T.inf,Sem.run_pure];simp only[Bool.false_eq_true,if_false,Sem.run_bind,Result.andThen,hl,if_pos hle,hn,Bool.not_false,if_true,Addr_add,hst,Sem.run_pure]
end Go.Proofs.YtglihimiidiacaaGreatDoor.Ev8
namespace Go.Proofs.YtglihimiidiacaaGreatDoor.Ev8
open Go
variable {τ τ':Option TypeId} {P:Program} {ι:Io} {h:Hp} {nx:Nat} {w:World} {ev:Operand→Value} {ρ:Operand→AV} {o:Oper}
theorem zc_size(z:Array Value)(n:Nat):(Builtin.zeroCells z n).size=n*z.size:=by simp[Builtin.zeroCells]
theorem wr_apNew{args:Array Operand}{ts:Array TypeId}{x y:Operand}(ho:o.op=.call {callee:=.builtin .append,args:=args,argTypes:=ts})(ha:args=#[x,y]){el:TypeId}{i:TypeInfo}{z:Value}(T:ApT P ts el i z)(hr:Rel ι h nx w)
 {base:Option Addr} {n cap m:Nat} (hx:ev x=.slice base n cap) {l:AV} (hl:∀w,(Builtin.lenOf (ev y)).run P w=.ok m w) {old new:Array Value} (ho1:∀w',w'.heap=w.heap→(Builtin.firstCells i.size n (.slice base n cap)).run P w'=.ok old w')
 (hn1:∀w',w'.heap=w.heap→(Builtin.firstCells i.size m (ev y)).run P w'=.ok new w') (hlt:cap<n+m) (hb:(n+m)*i.bytes≤140737488355328) (hm:((n+m:Nat):Int)≤IntKind.i64.max)
 (hL:lenL' l=some ((n+m)*i.size)) (hR:RL ι l (old++new).toList):Wr P ι h w ev o (.sl nx i.size 0 0 (n+m) none) (upd h nx (.c (some el) (nthA l) ((n+m)*i.size))) (nx+1):=by
 obtain⟨newCap,w',h1,h2,h3,he⟩:=run_grow (ty:=o.type) T hl ho1 hn1 hlt hb hm;have hsz:(Builtin.zeroCells z.cells (newCap-(n+m))).toList.length=(newCap-(n+m))*i.size:=by rw[Array.length_toList,zc_size,T.zsz]
 have g:=hr.row (w':=w') (ws:=(Builtin.zeroCells z.cells (newCap-(n+m))).toList) (t:=el) (fr:=(0,0)) hL hR (by rw[h3];congr 2;apply Array.toList_inj.1;simp) (fun j _=>by simp) newCap he;refine⟨_,w',_,_,ap_args ho ha (by rw[hx];exact h2),.inl rfl,?_,g⟩;refine⟨_,upd_same _ _ _,?_,fun _=>⟨?_,Nat.zero_le _⟩,?_⟩
 ·show n+m≤newCap-0;omega
 ·show newCap*i.size=(n+m)*i.size+_;rw[hsz,←Nat.add_mul];congr 1;omega
 ·show [Value.slice _ _ _]=[Value.slice _ _ (newCap-0)];simp
theorem wr_apIn{args:Array Operand}{ts:Array TypeId}{x y:Operand}(ho:o.op=.call {callee:=.builtin .append,args:=args,argTypes:=ts})(ha:args=#[x,y]){el:TypeId}{i:TypeInfo}{z:Value}(T:ApT P ts el i z)(hr:Rel ι h nx w)
 {b q k n m:Nat} {c:Option Nat} (hx:RV ι (.sl b i.size q k n c) (ev x)) (hm0:0<m) (hi:0<i.size) {cs cs':Nat→AV} {nb:Nat} (hbk:h b=.c τ cs nb) (hl:∀w,(Builtin.lenOf (ev y)).run P w=.ok m w) {new:Array Value}
 (hn1:(Builtin.firstCells i.size m (ev y)).run P w=.ok new w) {l:AV} (hL:lenL' l=some (m*i.size)) (hR:RL ι l new.toList) (hs:stS cs ((q+n)*i.size) l=some cs') (hq:(q+(n+m))*i.size≤nb) (hc:∀c0,c=some c0→n+m≤c0):
 Wr P ι h w ev o (.sl b i.size q k (n+m) c) (upd h b (.c τ cs' nb)) nx:=by
 obtain⟨E,hE,h1,h2,hv⟩:=hx.sl;obtain⟨arr,ty,fr,e1,e2,e3,e4,e5⟩:=hr.ent hbk hE;have hcap:n+m≤capOf E q c:=by
  cases c with
  |some c0=>exact hc c0 rfl
  |none=>
   obtain⟨a1,a2⟩:=h2 rfl;have:(q+(n+m))*i.size≤E.c*i.size:=by rw[a1];omega
   have:=Nat.le_of_mul_le_mul_right this hi;simp only[capOf];omega
 have hlen:=(RL.len hL hR).1;obtain⟨w',r1,g⟩:=run_stS (P:=P) (nx:=nx) (i:=0) (D:=(q+n)*i.size) hs hR hr hbk (by rw[hlen];rw[←Nat.add_assoc,Nat.add_mul]at hq;omega) hE;have hD:E.d+(if capOf E q c=0 then k else q)*i.size+n*i.size=E.d+(q+n)*i.size:=by rw[if_neg (by omega),Nat.add_mul];omega
 refine⟨_,w',ι,_,ap_args ho ha (by rw[hv];exact run_in (ty:=o.type) T hl hn1 hcap (by rw[hD];exact r1)),.inl rfl,⟨E,hE,hcap,h2,rfl⟩,g⟩
theorem wr_ap0{args:Array Operand}{ts:Array TypeId}{x y:Operand}(ho:o.op=.call {callee:=.builtin .append,args:=args,argTypes:=ts})(ha:args=#[x,y]){el:TypeId}{i:TypeInfo}{z:Value}(T:ApT P ts el i z)(hr:Rel ι h nx w)
 {base:Option Addr} {n cap:Nat} (hx:ev x=.slice base n cap) (hb:∀a,base=some a→a.spot=none) (hnc:n≤cap) (hl:∀w,(Builtin.lenOf (ev y)).run P w=.ok 0 w) (hn1:(Builtin.firstCells i.size 0 (ev y)).run P w=.ok #[] w) {a:AV} (hxa:RV ι a (ev x)):Wr P ι h w ev o a h nx:=by
 refine⟨_,w,ι,ev x,ap_args ho ha ?_,.inl rfl,hxa,Go1.refl hr⟩;rw[hx];cases base with
 |some A=>obtain⟨B,D,s⟩:=A;have:s=none:=hb _ rfl;subst this;exact run_in (ty:=o.type) T hl hn1 (by omega) rfl
 |none=>
  obtain⟨t,ht,hu⟩:=T.t0;cases h1:ts[1]? with
  |none=>
   simp only[Builtin.append_,List.getElem?_toArray,List.getElem?_cons_zero,List.getElem?_cons_succ,ht,h1,Sem.run_bind,run_und hu,Result.andThen,Go.sizeOf,run_info T.inf,Sem.run_pure,Bool.false_eq_true,if_false,hl,if_pos (show n+0≤cap by omega),hn1,Bool.not_false,if_true];rfl
  |some u=>
   obtain⟨d,hd,hk⟩:=T.t1 u h1;have hmt:(match d with|.int _=>true|_=>false)=false:=by cases d<;>first|rfl|exact absurd rfl (hk _)
   simp only[Builtin.append_,List.getElem?_toArray,List.getElem?_cons_zero,List.getElem?_cons_succ,ht,h1,Sem.run_bind,run_und hu,run_und hd,Result.andThen,Go.sizeOf,run_info T.inf,Sem.run_pure];simp only[Bool.false_eq_true,if_false,Sem.run_bind,Result.andThen,hl,if_pos (show n+0≤cap by omega),hn1,Bool.not_false,if_true,Sem.run_pure];rfl
end Go.Proofs.YtglihimiidiacaaGreatDoor.Ev8
namespace Go.Proofs.YtglihimiidiacaaGreatDoor.Ev8
open Go
variable {τ τ':Option TypeId} {P:Program} {ι:Io} {h:Hp} {nx:Nat} {w:World} {ev:Operand→Value} {ρ:Operand→AV} {o:Oper}
theorem Rel.cong(hr:Rel ι h nx w){b n:Nat}{cs cs':Nat→AV}(hb:h b=.c τ cs n)(hτ:τ'=τ∨τ'=none)(hc:∀i,i<n→cs' i=cs i):Rel ι (upd h b (.c τ' cs' n)) nx w where
 blk b' hd:=by
  by_cases e:b'=b
  ·subst e;obtain⟨E,h1,h2⟩:=hr.blk b' (by rw[hb];rfl);rw[hb]at h2;obtain⟨arr,ty,fr,a1,a2,a3,a4,a5⟩:=h2;rw[upd_same];exact⟨E,h1,arr,τ.getD ty,fr,by rcases hτ with rfl|rfl;(·cases τ'<;>exact a1);exact a1,a2,a3,a4,fun i hi=>by rw[hc i hi];exact a5 i hi⟩
  ·rw[upd_ne _ e]at hd ⊢;exact hr.blk b' hd
 new:=hr.new
 apart b1 b2 E1 E2 h1 h2:=by
  have q:∀b1,dead (upd h b (.c τ' cs' n) b1)=false→dead (h b1)=false:=fun b1 h1=>by
   by_cases e:b1=b
   ·subst e;rw[hb];rfl
   ·rwa[upd_ne _ e]at h1
  exact hr.apart b1 b2 E1 E2 (q _ h1) (q _ h2)
 inn:=hr.inn
theorem Go1.cong{ι':Io}{h':Hp}{w':World}{nx':Nat}(g:Go1 ι h w ι' h' nx' w'){b n:Nat}{cs cs':Nat→AV}(hb:h' b=.c τ cs n)(hτ:τ'=τ∨τ'=none)(hc:∀i,i<n→cs' i=cs i):Go1 ι h w ι' (upd h' b (.c τ' cs' n)) nx' w':=
 ⟨g.le,g.rel.cong hb hτ hc,g.size,g.keep,fun B ⟨b',E,h1,h2⟩=>g.own B ⟨b',E,by
  by_cases e:b'=b
  ·subst e;rw[hb];rfl
  ·rwa[upd_ne _ e]at h1,h2⟩,g.env,fun B hB ⟨b',E,h1,h2⟩=>g.shp B hB ⟨b',E,by
  by_cases e:b'=b
  ·subst e;rw[hb];rfl
  ·rwa[upd_ne _ e]at h1,h2⟩⟩
def cat:AV→AV→Option AV
 |.nil,l=>some l
 |.cons x k,l=>(cat k l).map (.cons x)
 |_,_=>none
theorem RL.cat:∀{k l m:AV} {us vs:List Value},Ev8.cat k l=some m→RL ι k us→RL ι l vs→RL ι m (us++vs):=by
 intro k;induction k with
 |nil=>intro l m us vs h h1 h2;simp only[Ev8.cat,Option.some.injEq]at h;subst h;have:us=[]:=h1;subst this;exact h2
 |cons x k _ ih=>
  intro l m us vs h h1 h2;obtain⟨v,ws,rfl,a,b⟩:=h1;simp only[Ev8.cat]at h;cases hq:Ev8.cat k l with
  |none=>rw[hq]at h;cases h
  |some m'=>rw[hq]at h;simp only[Option.map_some,Option.some.injEq]at h;subst h;exact⟨v,ws++vs,rfl,a,ih hq b h2⟩
 |_=>intro l m us vs h;simp[Ev8.cat]at h
theorem cat_len:∀{k l m:AV} {a b:Nat},Ev8.cat k l=some m→lenL' k=some a→lenL' l=some b→lenL' m=some (a+b)∧(∀i,i<a→nthA m i=nthA k i)∧∀i,nthA m (a+i)=nthA l i:=by
 intro k;induction k with
 |nil=>intro l m a b h h1 h2;simp only[Ev8.cat,Option.some.injEq]at h;subst h;simp only[lenL',Option.some.injEq]at h1;subst h1;exact⟨by simpa using h2,fun i hi=>by omega,fun i=>by simp⟩
 |cons x k _ ih=>
  intro l m a b h h1 h2;simp only[Ev8.cat]at h;simp only[lenL']at h1;cases hq:Ev8.cat k l with
  |none=>rw[hq]at h;cases h
  |some m'=>
   rw[hq]at h;simp only[Option.map_some,Option.some.injEq]at h;subst h;cases hk:lenL' k with
   |none=>rw[hk]at h1;cases h1
   |some a'=>
    rw[hk]at h1;simp only[Option.map_some,Option.some.injEq]at h1;subst h1;obtain⟨c1,c2,c3⟩:=ih hq hk h2;refine⟨by simp only[lenL',c1,Option.map_some];congr 1;omega,fun i hi=>?_,fun i=>?_⟩
    ·cases i with
     |zero=>rfl
     |succ i=>exact c2 i (by omega)
    ·rw[show a'+1+i=(a'+i)+1 by omega];exact c3 i
 |_=>intro l m a b h;simp[Ev8.cat]at h
theorem cat_mkL(k:List AV){l:AV}:∃m,Ev8.cat (mkL k) l=some m:=by
 induction k with
 |nil=>exact⟨l,rfl⟩
 |cons x k ih=>obtain⟨m,hm⟩:=ih;exact⟨.cons x m,by simp[mkL,Ev8.cat,hm]⟩
theorem nth_mkL:∀(l:List AV) (i:Nat),i<l.length→nthA (mkL l) i=l[i]?.getD .un
 |a::l,0,_=>rfl
 |a::l,i+1,h=>by simpa[mkL,nthA]using nth_mkL l i (by simpa using h)
theorem wr_apU{args:Array Operand}{ts:Array TypeId}{x y:Operand}(ho:o.op=.call {callee:=.builtin .append,args:=args,argTypes:=ts})(ha:args=#[x,y]){el:TypeId}{i:TypeInfo}{z:Value}(T:ApT P ts el i z)(hr:Rel ι h nx w)
 {b q k n m:Nat} (hx:RV ι (.sl b i.size q k n none) (ev x)) (hm0:0<m) (_hi:0<i.size) {cs cs':Nat→AV} {nb:Nat} (hbk:h b=.c τ cs nb) (hτ:τ'=none∨(τ'=some el∧τ=some el)) (hqn:q*i.size+n*i.size≤nb) (hl:∀w,(Builtin.lenOf (ev y)).run P w=.ok m w) {new:Array Value}
 (hn1:∀w',w'.heap=w.heap→(Builtin.firstCells i.size m (ev y)).run P w'=.ok new w') {l:AV} (hL:lenL' l=some (m*i.size)) (hR:RL ι l new.toList) (hone:oneL l=true) (hb:(n+m)*i.bytes≤140737488355328) (hm:((n+m:Nat):Int)≤IntKind.i64.max)
 (hc1:∀j,j<n*i.size→cs' j=cs (q*i.size+j)) (hc2:∀j,j<m*i.size→cs' (n*i.size+j)=nthA l j):
 Wr P ι h w ev o (.sl nx i.size 0 0 (n+m) none) (upd (upd h b .no) nx (.c τ' cs' ((n+m)*i.size))) (nx+1):=by
 obtain⟨E,hE,h1,h2,hv⟩:=hx.sl;obtain⟨a1,a2⟩:=h2 rfl;have hbn:b≠nx:=fun e=>by rw[e,hr.new nx (Nat.le_refl _)]at hE;cases hE
 obtain⟨hlen,hnth⟩:=RL.len hL hR;have hd:dead (h b)=false:=by rw[hbk];rfl
 have h1':n≤E.c-q:=h1;by_cases hcap:n+m≤E.c-q
 ·
  obtain⟨arr,ty,fr,e1,e2,e3,e4,e5⟩:=hr.ent hbk hE;have hroom:(q+(n+m))*i.size≤E.r:=by rw[←a1];exact Nat.mul_le_mul_right _ (by omega)
  rw[Nat.add_mul,Nat.add_mul]at hroom;obtain⟨w',arr',r1,r2,r3,r4,r5,r6,r7,r8⟩:=run_stW (P:=P) (vs:=new.toList) (i:=0) (D:=E.d+q*i.size+n*i.size) e1 (by rw[hlen];omega) (fun j hj=>by
   have:=e4 (q*i.size+n*i.size+j) (by rw[hlen]at hj;omega);rwa[show E.d+q*i.size+n*i.size+0+j=E.d+(q*i.size+n*i.size+j) by omega]) (oneL_v hone hR)
  have hle:Le ι (upd ι nx (some ⟨E.b,E.d+q*i.size,E.c-q,E.r-q*i.size⟩)):=fun b' e hb'=>by
   by_cases p:b'=nx
   ·subst p;rw[hr.new b' (Nat.le_refl _)]at hb';cases hb'
   ·rwa[upd_ne _ p]
  rw[if_neg (show ¬capOf E q none=0 by show ¬E.c-q=0;omega)]at hv;replace hv:ev x=.slice (some ⟨E.b,E.d+q*i.size,none⟩) n (E.c-q):=hv
  refine⟨_,w',upd ι nx (some ⟨E.b,E.d+q*i.size,E.c-q,E.r-q*i.size⟩),_,ap_args ho ha (by rw[hv];exact run_in (ty:=o.type) T hl (hn1 w rfl) hcap r1),.inl rfl,⟨_,upd_same _ _ _,?_,fun _=>⟨?_,Nat.zero_le _⟩,?_⟩,?_⟩
  ·show n+m≤E.c-q-0;omega
  ·show(E.c-q)*i.size=E.r-q*i.size;rw[Nat.sub_mul,a1]
  ·show [Value.slice _ _ _]=[Value.slice _ _ _];rw[if_neg (show ¬capOf _ 0 none=0 by show ¬E.c-q-0=0;omega)];simp[capOf]
  ·have hk:∀b',b'≠nx→b'≠b→∀E',dead (h b')=false→ι b'=some E'→E'.b≠E.b:=fun b' p1 p2 E' d1 d2 e=>p2 (hr.apart b' b E' E d1 hd d2 hE e);have dn:∀b',b'≠nx→dead (upd (upd h b .no) nx (.c τ' cs' ((n+m)*i.size)) b')=false→b'≠b∧dead (h b')=false∧upd (upd h b .no) nx (.c τ' cs' ((n+m)*i.size)) b'=h b':=fun b' p hd'=>by
    rw[upd_ne _ p]at hd' ⊢;by_cases p2:b'=b
    ·subst p2;rw[upd_same]at hd';cases hd'
    ·rw[upd_ne _ p2]at hd' ⊢;exact⟨p2,hd',rfl⟩
   exact {
    env:=r8
    shp:=fun B hB _=>by
     by_cases e:B=E.b
     ·intro a t f ha;rw[e,e1]at ha;cases ha;exact⟨arr',by rw[e];exact r2,r3⟩
     ·exact .same (r5 B e)
    le:=hle
    rel:={
     blk:=fun b' hb'=>by
      by_cases p:b'=nx
      ·subst p;rw[upd_same,upd_same];refine⟨_,rfl,arr',τ.getD ty,fr,by rcases hτ with rfl|⟨rfl,rfl⟩<;>exact r2,by rw[r3];show E.d+q*i.size+(E.r-q*i.size)=_;omega,by show(n+m)*i.size≤E.r-q*i.size;rw[Nat.add_mul];omega,fun j hj=>?_,fun j hj=>?_⟩
       ·have hj':j<E.r-q*i.size:=hj;have:=e4 (q*i.size+j) (by omega);show ¬(fr.1≤E.d+q*i.size+j∧E.d+q*i.size+j<fr.2);rwa[Nat.add_assoc]
       ·rw[Nat.add_mul]at hj;by_cases hj1:j<n*i.size
        ·obtain⟨v,b1,b2⟩:=e5 (q*i.size+j) (by omega);refine⟨v,?_,by rw[hc1 j hj1];exact b2.mono hle⟩;show arr'[E.d+q*i.size+j]?=_;rw[r6 _ (by omega),Nat.add_assoc];exact b1
        ·obtain⟨jj,rfl⟩:∃jj,j=n*i.size+jj:=⟨j-n*i.size,by omega⟩;obtain⟨v,b1,b2⟩:=hnth jj (by omega);refine⟨v,?_,by rw[hc2 jj (by omega)];exact b2.mono hle⟩;have:=r7 jj v b1;show arr'[E.d+q*i.size+(n*i.size+jj)]?=_;rwa[show E.d+q*i.size+(n*i.size+jj)=E.d+q*i.size+n*i.size+0+jj by omega]
      ·obtain⟨p2,d1,d2⟩:=dn b' p hb';rw[d2,upd_ne _ p];obtain⟨E',c1,c2⟩:=hr.blk b' d1;exact⟨E',c1,(c2.mono hle).heap (r5 _ (hk b' p p2 E' d1 c1))⟩
     new:=fun b' hb'=>by rw[upd_ne _ (by omega)];exact hr.new b' (by omega)
     apart:=fun b1 b2 E1 E2 d1 d2 c1 c2 e=>by
      by_cases p1:b1=nx
      ·by_cases p2:b2=nx
       ·rw[p1,p2]
       ·obtain⟨q1,q2,-⟩:=dn b2 p2 d2;rw[upd_ne _ p2]at c2;rw[p1,upd_same]at c1;cases c1;exact absurd e.symm (hk b2 p2 q1 E2 q2 c2)
      ·obtain⟨q1,q2,-⟩:=dn b1 p1 d1;rw[upd_ne _ p1]at c1;by_cases p2:b2=nx
       ·rw[p2,upd_same]at c2;cases c2;exact absurd e (hk b1 p1 q1 E1 q2 c1)
       ·obtain⟨s1,s2,-⟩:=dn b2 p2 d2;rw[upd_ne _ p2]at c2;exact hr.apart b1 b2 E1 E2 q2 s2 c1 c2 e
     inn:=fun b' E' hb'=>by
      rw[r4];by_cases p:b'=nx
      ·rw[p,upd_same]at hb';cases hb';exact hr.inn b E hE
      ·rw[upd_ne _ p]at hb';exact hr.inn b' E' hb'}
    size:=by rw[r4];exact Nat.le_refl _
    keep:=fun B hB hn=>r5 B fun e=>hn ⟨b,E,hd,hE,e.symm⟩
    own:=fun B ⟨b',E',c1,c2,c3⟩=>by
     by_cases p:b'=nx
     ·rw[p,upd_same]at c2;cases c2;exact .inl ⟨b,E,hd,hE,c3⟩
     ·obtain⟨q1,q2,-⟩:=dn b' p c1;rw[upd_ne _ p]at c2;exact .inl ⟨b',E',q2,c2,c3⟩}
 ·
  obtain⟨E2,C2,s1,old,s2,s3⟩:=src_sl (P:=P) (m:=n) hx hr hbk (Nat.le_refl _) hqn;rw[hv]at s1 s2;obtain⟨ml,hml⟩:=cat_mkL ((List.range' (q*i.size) (n*i.size)).map cs) (l:=l);have hlk:=lenL_mkL ((List.range' (q*i.size) (n*i.size)).map cs);simp only[List.length_map,List.length_range']at hlk;obtain⟨t1,t2,t3⟩:=cat_len hml hlk hL;rw[←Nat.add_mul]at t1;obtain⟨r,w',ι',v,g1,g2,g3,g4⟩:=wr_apNew ho ha T hr hv hl s2 hn1 (show E.c-q<n+m by omega) hb hm t1 (by rw[Array.toList_append];exact RL.cat hml s3 hR);have g5:=(g4.trans (Go1.kill g4.rel b));have e1:upd (upd h nx (.c (some el) (nthA ml) ((n+m)*i.size))) b .no=upd (upd h b .no) nx (.c (some el) (nthA ml) ((n+m)*i.size)):=by
   funext j;simp only[upd];split<;>split<;>first|rfl|(exfalso;omega)
  rw[e1]at g5;have g6:=g5.cong (b:=nx) (n:=(n+m)*i.size) (cs':=cs') (τ':=τ') (by rw[upd_same]) (by rcases hτ with h|h;exact .inr h;exact .inl h.1) (fun j hj=>by
   rw[Nat.add_mul]at hj;by_cases hj1:j<n*i.size
   ·rw[hc1 j hj1,t2 j hj1,nth_mkL _ _ (by simpa using hj1)];simp[List.getElem?_range' hj1]
   ·obtain⟨jj,rfl⟩:∃jj,j=n*i.size+jj:=⟨j-n*i.size,by omega⟩;rw[hc2 jj (by omega),t3])
  rw[upd_upd]at g6;exact⟨r,w',ι',v,g1,g2,g3,g6⟩
end Go.Proofs.YtglihimiidiacaaGreatDoor.Ev8
namespace Go.Proofs.YtglihimiidiacaaGreatDoor.Ev8
open Go
variable {P:Program} {ι:Io} {h:Hp} {nx:Nat} {w:World} {ev:Operand→Value} {ρ:Operand→AV} {o:Oper}
def seg(ws:List Value)(off:Nat)(us:List Value):List Value:=ws.take off++us++ws.drop (off+us.length)
theorem seg_len{ws us:List Value}{off:Nat}(h:off+us.length≤ws.length):(seg ws off us).length=ws.length:=by simp[seg];omega
theorem seg_step(ws:List Value)(a:Nat)(u:Value)(us:List Value)(h:a<ws.length):seg (ws.set a u) (a+1) us=seg ws a (u::us):=by
 have e:ws.set a u=ws.take a++u::ws.drop (a+1):=List.set_eq_take_append_cons_drop ..|>.trans (if_pos h);simp only[seg,e,List.length_cons];have hl:(ws.take a).length=a:=by simp;omega
 rw[List.take_append,List.drop_append,hl];have h2:a+1+us.length-a=us.length+1:=by omega
 have h3:a+1-a=1:=by omega
 rw[h2,h3,show(ws.take a).take (a+1)=ws.take a from List.take_of_length_le (by omega),show(ws.take a).drop (a+1+us.length)=[] from List.drop_of_length_le (by omega)];simp only[List.take_succ_cons,List.take_zero,List.drop_succ_cons,List.drop_drop,List.nil_append];rw[show a+1+us.length=a+(us.length+1) by omega];simp
theorem fold_seg:∀(us:List Value) (k off:Nat) (cells:Array Value),off+k+us.length≤cells.size→((us.zipIdx k).foldl (fun cs (p:Value×Nat)=>cs.setIfInBounds (off+p.2) p.1) cells).toList=seg cells.toList (off+k) us
 |[],k,off,cells,h=>by simp[seg]
 |u::us,k,off,cells,h=>by
  simp only[List.length_cons]at h;have ih:=fold_seg us (k+1) off (cells.setIfInBounds (off+k) u) (by simp;omega);simp only[List.zipIdx_cons,List.foldl_cons];rw[ih];rw[Array.toList_setIfInBounds];exact seg_step _ _ _ _ (by simp;omega)
theorem fill_seg{place:Nat→Option (Nat×Nat)}{cells:Array Value}{i off size:Nat}{v:Value}{rest:List (Nat×Value)}(hp:place i=some (off,size))(hs:v.cells.size=size)(hb:off+size≤cells.size):
 Instr.fill place cells ((i,v)::rest)=Instr.fill place (seg cells.toList off v.cells.toList).toArray rest:=by
 have hg:(v.cells.size≠size||off+v.cells.size>cells.size)=false:=by simp[hs];omega
 simp only[Instr.fill,hp,hg,Bool.false_eq_true,if_false];congr 1
 apply Array.toList_inj.1;have:=fold_seg v.cells.toList 0 off cells (by simp;omega);rw[Nat.add_zero]at this;show _=seg cells.toList off v.cells.toList;rw[←this,←Array.foldl_toList,Array.toList_zipIdx]
def segA:Nat→AV→AV→Option AV
 |0,.nil,l=>some l
 |0,.cons x k,.cons _ l=>(segA 0 k l).map (.cons x)
 |n+1,k,.cons x l=>(segA n k l).map (.cons x)
 |_,_,_=>none
theorem segA_rl:∀{l k m:AV} {off:Nat} {ws us:List Value},segA off k l=some m→RL ι l ws→RL ι k us→off+us.length≤ws.length∧RL ι m (seg ws off us):=by
 intro l;induction l with
 |nil=>
  intro k m off ws us h h1 h2;have:ws=[]:=h1;subst this;cases off with
  |zero=>cases k<;>simp[segA]at h;subst h;have:us=[]:=h2;subst this;exact⟨by simp,rfl⟩
  |succ n=>simp[segA]at h
 |cons x l _ ih=>
  intro k m off ws us h h1 h2;obtain⟨v,ws',rfl,a,b⟩:=h1;cases off with
  |zero=>
   cases k with
   |nil=>simp only[segA,Option.some.injEq]at h;subst h;have:us=[]:=h2;subst this;exact⟨by simp,⟨v,ws',by simp[seg],a,b⟩⟩
   |cons y k=>
    simp only[segA]at h;obtain⟨u,us',rfl,c,d⟩:=h2;cases hq:segA 0 k l with
    |none=>rw[hq]at h;cases h
    |some m'=>
     rw[hq]at h;simp only[Option.map_some,Option.some.injEq]at h;subst h;obtain⟨e1,e2⟩:=ih hq b d;exact⟨by simp at e1 ⊢;omega,⟨u,seg ws' 0 us',by simp[seg],c,e2⟩⟩
   |_=>simp[segA]at h
  |succ n=>
   simp only[segA]at h;cases hq:segA n k l with
   |none=>rw[hq]at h;cases h
   |some m'=>
    rw[hq]at h;simp only[Option.map_some,Option.some.injEq]at h;subst h;obtain⟨e1,e2⟩:=ih hq b h2;refine⟨by simp;omega,⟨v,seg ws' n us,?_,a,e2⟩⟩;simp[seg,show n+1+us.length=(n+us.length)+1 by omega]
 |_=>
  intro k m off ws us h h1 h2;cases off with
  |zero=>cases k<;>simp[segA]at h;all_goals(subst h;have:us=[]:=h2;subst this;exact⟨by simp,by simpa[seg]using h1⟩)
  |succ n=>simp[segA]at h
def bldS(ρ:Operand→AV)(place:Nat→Option (Nat×Nat)):List (Nat×Operand)→AV→Option AV
 |[],l=>some l
 |(i,x)::ps,l=>match place i,lenL' (cellsA (ρ x)) with
  |some (off,size),some n=>if n=size then match segA off (cellsA (ρ x)) l with|some l=>bldS ρ place ps l|none=>none else none
  |_,_=>none
theorem cells_rl{a:AV}{v:Value}(hn:∃n,lenL' (cellsA a)=some n)(ho:oneA a=true∨∃t l,a=.k 0 t l)(hr:RV ι a v):RL ι (cellsA a) v.cells.toList:=by
 rcases ho with ho|⟨t,l,rfl⟩
 ·have h1:=oneA_v ho hr;have hv:v.cells=#[v]:=by cases v<;>simp[Value.cells];cases h1
  rw[hv];have:cellsA a=.cons a .nil:=by
   cases a with
   |k g t l=>match g,ho with|g+2,_=>rfl
   |_=>rfl
  rw[this];exact⟨v,[],rfl,hr,rfl⟩
 ·obtain⟨ws,h1,rfl⟩:=hr.agg;exact h1
theorem bld_rl{place:Nat→Option (Nat×Nat)}(hx:∀x,RV ι (ρ x) (ev x)):∀{ps:List (Nat×Operand)} {l m:AV} {ws:List Value},bldS ρ place ps l=some m→RL ι l ws→(∀p∈ps,oneA (ρ p.2)=true∨∃t k,ρ p.2=.k 0 t k)→
 ∃us,Instr.fill place ws.toArray (ps.map fun p=>(p.1,ev p.2))=some us.toArray∧RL ι m us∧us.length=ws.length:=by
 intro ps;induction ps with
 |nil=>intro l m ws h hl _;simp only[bldS,Option.some.injEq]at h;subst h;exact⟨ws,rfl,hl,rfl⟩
 |cons p ps ih=>
  obtain⟨i,x⟩:=p;intro l m ws h hl hone;simp only[bldS]at h;cases hp:place i with
  |none=>rw[hp]at h;cases h
  |some q=>
   obtain⟨off,size⟩:=q;cases hn:lenL' (cellsA (ρ x)) with
   |none=>rw[hp,hn]at h;cases h
   |some n=>
    rw[hp,hn]at h;simp only at h;split at h
    ·rename_i hns
     cases hsg:segA off (cellsA (ρ x)) l with
     |none=>rw[hsg]at h;cases h
     |some l2=>
      rw[hsg]at h;have hc:=cells_rl ⟨n,hn⟩ (hone (i,x) (List.mem_cons_self ..)) (hx x);obtain⟨e1,e2⟩:=segA_rl hsg hl hc;have hsz:(ev x).cells.size=size:=by rw[←Array.length_toList,(RL.len hn hc).1,hns]
      obtain⟨us,f1,f2,f3⟩:=ih h e2 (fun p hp=>hone p (List.mem_cons_of_mem _ hp));refine⟨us,?_,f2,by rw[f3,seg_len e1]⟩;rw[List.map_cons,fill_seg hp hsz (by simp;rw[←hsz,←Array.length_toList];exact e1)];exact f1
    ·cases h
theorem rd_bld{t:TypeId}{ps:Array (Nat×Operand)}(ho:o.op=.build t ps){z:Value}(_hz:∀w,(zeroValue t).run P w=.ok z w){l m:AV}(hl:RL ι l z.cells.toList)(hx:∀x,RV ι (ρ x) (ev x))(hone:∀p∈ps.toList,oneA (ρ p.2)=true∨∃t k,ρ p.2=.k 0 t k)
 {place:Nat→Option (Nat×Nat)} (hb:bldS ρ place ps.toList l=some m)
 (hc:∀cells,Instr.fill place z.cells (ps.map fun p=>(p.1,ev p.2)).toList=some cells→(Instr.build t (ps.map fun p=>(p.1,ev p.2))).run P w=.ok (.agg cells) w):Rd P ι w ev o (.k 0 0 m):=by
 obtain⟨us,f1,f2,-⟩:=bld_rl hx hb hl hone;refine⟨.agg us.toArray,?_,⟨us,f2,rfl⟩⟩;have:=hc us.toArray (by rw[Array.toList_map];simpa using f1);simp only[execOp,ho,Sem.run_bind];rw[this];rfl
end Go.Proofs.YtglihimiidiacaaGreatDoor.Ev8
