import Derived.LoadGo3
import Derived.KernelRfl
namespace Go.Proofs.YtglihimiidiacaaGreatDoor.Ev8
def gN:Nat:=473
def gM:Nat:=10175742838807227815557808186108431354597795021565948037097376918086871066540954853068392792193977114688296920444005876225074449335975937
def gT(t:Nat):Bool:=and (Nat.blt t gN) (Nat.beq (Nat.land (Nat.shiftRight gM t) 1) 0)
def gG:Nat:=27
def gR(g:Nat):Nat:=if g=24 then 147 else if g=0 then 20 else 0
def cvT(t:Nat):Bool:=[3,59].any fun u=>Nat.beq u t
end Go.Proofs.YtglihimiidiacaaGreatDoor.Ev8
namespace Go.Proofs.YtglihimiidiacaaGreatDoor.Ev8
open Go
set_option maxRecDepth 100000
structure N4 (α:Type) where
 a:α
 b:α
 c:α
 d:α
@[reducible] def Tr(α:Type)(d:Nat):Type:=Nat.rec α (fun _ t=>N4 t) d
inductive AV where
 |un
 |nil
 |cons (x l:AV)
 |v (x:Value)
 |r (g b:Nat)
 |k (g t:Nat) (l:AV)
 |s (l n:Nat)
 |sl (b e o k n:Nat) (c:Option Nat)
 |ptr (b o:Nat)
 |b (x:Bool)
 |i (k:IntKind) (n:Int)
structure TM where
 a0:AV
 a1:AV
 a2:AV
 a3:AV
 a4:AV
 a5:AV
 a6:AV
 a7:AV
 y:Tr AV 3
inductive Xt where
 |ex (id:Nat)|gt (l:Nat)|rt
structure Fd where (vs:List Nat) (dr:List (Nat×List (Nat×Bool)))
inductive Blk where
 |no
 |lp (fd:Fd) (tm:TM) (ps:List Tmp) (ac bd:Code) (pend:Option Xt)
 |m (es:List (Nat×Nat×AV))
 |s (q:Option TypeId) (cs:Tr AV 2) (n:Nat)
 |c (q:Option TypeId) (cs:Tr AV 6) (n:Nat)
 |o (a:AV)
structure HS where (h:Tr Blk 7) (nx:Nat)
inductive Res where
 |fail
 |out (x:Xt) (tm:TM) (H:HS)
 |nrm (tm:TM) (H:HS)
 |fv (v:AV) (H:HS)
noncomputable section
def eTr{α:Type}(x:α):(d:Nat)→Tr α d
 |0=>x
 |d+1=>(⟨eTr x d,eTr x d,eTr x d,eTr x d⟩:N4 (Tr α d))
structure GW (α:Type) (d:Nat) where (f:Tr α d→α)
structure PW (α:Type) (d:Nat) where (f:α→Tr α d→(Tr α d→Res)→Res)
def gw(α:Type):(d:Nat)→Nat→GW α d
 |0,_=>⟨fun t=>t⟩
 |d+1,i=>bif Nat.beq (Nat.mod i 4) 0 then ⟨fun t=>(gw α d (Nat.div i 4)).f (N4.a t)⟩ else bif Nat.beq (Nat.mod i 4) 1 then ⟨fun t=>(gw α d (Nat.div i 4)).f (N4.b t)⟩ else bif Nat.beq (Nat.mod i 4) 2 then ⟨fun t=>(gw α d (Nat.div i 4)).f (N4.c t)⟩ else ⟨fun t=>(gw α d (Nat.div i 4)).f (N4.d t)⟩
def get{α:Type}(d i:Nat)(t:Tr α d):α:=(gw α d i).f t
def pw(α:Type):(d:Nat)→Nat→PW α d
 |0,_=>⟨fun x _ C=>C x⟩
 |d+1,i=>bif Nat.beq (Nat.mod i 4) 0 then ⟨fun x t C=>N4.rec (motive:=fun _=>Res) (fun a b c e=>(pw α d (Nat.div i 4)).f x a fun a=>C (⟨a,b,c,e⟩:N4 (Tr α d))) t⟩ else bif Nat.beq (Nat.mod i 4) 1 then ⟨fun x t C=>N4.rec (motive:=fun _=>Res) (fun a b c e=>(pw α d (Nat.div i 4)).f x b fun b=>C (⟨a,b,c,e⟩:N4 (Tr α d))) t⟩ else bif Nat.beq (Nat.mod i 4) 2 then ⟨fun x t C=>N4.rec (motive:=fun _=>Res) (fun a b c e=>(pw α d (Nat.div i 4)).f x c fun c=>C (⟨a,b,c,e⟩:N4 (Tr α d))) t⟩ else ⟨fun x t C=>N4.rec (motive:=fun _=>Res) (fun a b c e=>(pw α d (Nat.div i 4)).f x e fun e=>C (⟨a,b,c,e⟩:N4 (Tr α d))) t⟩
structure TW where (g:TM→AV) (p:AV→TM→(TM→Res)→Res)
def tw:Nat→TW
 |0=>⟨fun tm=>tm.a0,fun x tm C=>TM.rec (motive:=fun _=>Res) (fun _ a1 a2 a3 a4 a5 a6 a7 y=>C ⟨x,a1,a2,a3,a4,a5,a6,a7,y⟩) tm⟩
 |1=>⟨fun tm=>tm.a1,fun x tm C=>TM.rec (motive:=fun _=>Res) (fun a0 _ a2 a3 a4 a5 a6 a7 y=>C ⟨a0,x,a2,a3,a4,a5,a6,a7,y⟩) tm⟩
 |2=>⟨fun tm=>tm.a2,fun x tm C=>TM.rec (motive:=fun _=>Res) (fun a0 a1 _ a3 a4 a5 a6 a7 y=>C ⟨a0,a1,x,a3,a4,a5,a6,a7,y⟩) tm⟩
 |3=>⟨fun tm=>tm.a3,fun x tm C=>TM.rec (motive:=fun _=>Res) (fun a0 a1 a2 _ a4 a5 a6 a7 y=>C ⟨a0,a1,a2,x,a4,a5,a6,a7,y⟩) tm⟩
 |4=>⟨fun tm=>tm.a4,fun x tm C=>TM.rec (motive:=fun _=>Res) (fun a0 a1 a2 a3 _ a5 a6 a7 y=>C ⟨a0,a1,a2,a3,x,a5,a6,a7,y⟩) tm⟩
 |5=>⟨fun tm=>tm.a5,fun x tm C=>TM.rec (motive:=fun _=>Res) (fun a0 a1 a2 a3 a4 _ a6 a7 y=>C ⟨a0,a1,a2,a3,a4,x,a6,a7,y⟩) tm⟩
 |6=>⟨fun tm=>tm.a6,fun x tm C=>TM.rec (motive:=fun _=>Res) (fun a0 a1 a2 a3 a4 a5 _ a7 y=>C ⟨a0,a1,a2,a3,a4,a5,x,a7,y⟩) tm⟩
 |7=>⟨fun tm=>tm.a7,fun x tm C=>TM.rec (motive:=fun _=>Res) (fun a0 a1 a2 a3 a4 a5 a6 _ y=>C ⟨a0,a1,a2,a3,a4,a5,a6,x,y⟩) tm⟩
 |n+8=>⟨fun tm=>(gw AV 3 n).f tm.y,fun x tm C=>TM.rec (motive:=fun _=>Res) (fun a0 a1 a2 a3 a4 a5 a6 a7 y=>(pw AV 3 n).f x y fun y=>C ⟨a0,a1,a2,a3,a4,a5,a6,a7,y⟩) tm⟩
def oneV:Value→Bool
 |.agg _|.tuple _=>false
 |_=>true
def oneA:AV→Bool
 |.un|.nil|.cons _ _=>false
 |.v x=>oneV x
 |.k g _ _=>Nat.ble 2 g
 |_=>true
def oneLF(l:AV):Bool:=AV.rec (motive:=fun _=>Bool) false true (fun x _ _ ih=>and (oneA x) ih) (fun _=>false) (fun _ _=>false) (fun _ _ _ _=>false) (fun _ _=>false) (fun _ _ _ _ _ _=>false) (fun _ _=>false) (fun _=>false) (fun _ _=>false) l
def isK0:AV→Bool
 |.k g _ _=>Nat.beq g 0
 |_=>false
def chk1(a:AV)(C:Unit→Res):Res:=AV.rec (motive:=fun _=>Res) .fail .fail (fun _ _ _ _=>.fail) (fun x=>Bool.rec (motive:=fun _=>Res) .fail (C ()) (oneV x)) (fun _ _=>C ()) (fun g _ _ _=>Bool.rec (motive:=fun _=>Res) .fail (C ()) (Nat.ble 2 g)) (fun _ _=>C ()) (fun _ _ _ _ _ _=>C ()) (fun _ _=>C ()) (fun _=>C ()) (fun _ _=>C ()) a
def chkL(l:AV)(C:Unit→Res):Res:=AV.rec (motive:=fun _=>(Unit→Res)→Res) (fun _=>.fail) (fun C=>C ()) (fun x _ _ ih C=>chk1 x fun _=>ih C) (fun _ _=>.fail) (fun _ _ _=>.fail) (fun _ _ _ _ _=>.fail) (fun _ _ _=>.fail) (fun _ _ _ _ _ _ _=>.fail) (fun _ _ _=>.fail) (fun _ _=>.fail) (fun _ _ _=>.fail) l C
def cellsC(a:AV)(C:AV→Res):Res:=AV.rec (motive:=fun _=>Res) .fail .fail (fun _ _ _ _=>.fail) (fun x=>Bool.rec (motive:=fun _=>Res) .fail (C (.cons (.v x) .nil)) (oneV x)) (fun g b=>C (.cons (.r g b) .nil)) (fun g t l _=>Bool.rec (motive:=fun _=>Res) (Bool.rec (motive:=fun _=>Res) .fail (C (.cons (.k g t l) .nil)) (Nat.ble 2 g)) (C l) (Nat.beq g 0)) (fun l n=>C (.cons (.s l n) .nil)) (fun b e o k n c=>C (.cons (.sl b e o k n c) .nil)) (fun b o=>C (.cons (.ptr b o) .nil)) (fun x=>C (.cons (.b x) .nil)) (fun k n=>C (.cons (.i k n) .nil)) a
def fN(n:Nat)(C:Nat→Res):Res:=Nat.rec (motive:=fun _=>Res) (C 0) (fun m _=>C (Nat.succ m)) n
def cN(k:IntKind)(n:Nat)(C:AV→Res):Res:=Nat.rec (motive:=fun _=>Res) (C (.i k (.ofNat 0))) (fun m _=>C (.i k (.ofNat (Nat.succ m)))) n
def cI(k:IntKind)(n:Int)(C:AV→Res):Res:=Int.rec (motive:=fun _=>Res) (fun n=>cN k n C) (fun n=>fN n fun n=>C (.i k (.negSucc n))) n
def cB(x:Bool)(C:AV→Res):Res:=Bool.rec (motive:=fun _=>Res) (C (.b false)) (C (.b true)) x
def oR{α:Type}(x:Option α)(C:α→Res):Res:=Option.rec (motive:=fun _=>Res) .fail C x
def asB(a:AV)(C:Bool→Res):Res:=AV.rec (motive:=fun _=>Res) .fail .fail (fun _ _ _ _=>.fail) (fun _=>.fail) (fun _ _=>.fail) (fun _ _ _ _=>.fail) (fun _ _=>.fail) (fun _ _ _ _ _ _=>.fail) (fun _ _=>.fail) (fun x=>C x) (fun _ _=>.fail) a
def asN(a:AV)(C:Nat→Res):Res:=AV.rec (motive:=fun _=>Res) .fail .fail (fun _ _ _ _=>.fail) (fun _=>.fail) (fun _ _=>.fail) (fun _ _ _ _=>.fail) (fun _ _=>.fail) (fun _ _ _ _ _ _=>.fail) (fun _ _=>.fail) (fun _=>.fail) (fun _ zz=>Int.rec (motive:=fun _=>Res) (fun n=>C n) (fun _=>.fail) zz) a
def asK(a:AV)(C:AV→AV→Res):Res:=AV.rec (motive:=fun _=>Res) .fail .fail (fun x l _ _=>C x l) (fun _=>.fail) (fun _ _=>.fail) (fun _ _ _ _=>.fail) (fun _ _=>.fail) (fun _ _ _ _ _ _=>.fail) (fun _ _=>.fail) (fun _=>.fail) (fun _ _=>.fail) a
def asL(a:AV)(C:Nat→Nat→Nat→Nat→Nat→Option Nat→Res):Res:=AV.rec (motive:=fun _=>Res) .fail .fail (fun _ _ _ _=>.fail) (fun _=>.fail) (fun _ _=>.fail) (fun _ _ _ _=>.fail) (fun _ _=>.fail) (fun b e o k n c=>C b e o k n c) (fun _ _=>.fail) (fun _=>.fail) (fun _ _=>.fail) a
def asM(b:Blk)(C:List (Nat×Nat×AV)→Res):Res:=Blk.rec (motive:=fun _=>Res) .fail (fun _ _ _ _ _ _=>.fail) C (fun _ _ _=>.fail) (fun _ _ _=>.fail) (fun _=>.fail) b
def iB(x:Bool)(a b:Res):Res:=Bool.rec (motive:=fun _=>Res) b a x
inductive E|emp|c (v:AV) (t:E)
structure OW where (f:E→TM→AV)
def eW:Nat→OW
 |0=>⟨fun e _=>E.rec (motive:=fun _=>AV) .un (fun v _ _=>v) e⟩
 |n+1=>⟨fun e tm=>E.rec (motive:=fun _=>AV) .un (fun _ t _=>(eW n).f t tm) e⟩
def sNat:List UInt8→Nat
 |[]=>0
 |b::l=>Nat.add b.toNat (Nat.mul 256 (sNat l))
def mkL:List AV→AV
 |[]=>.nil
 |a::l=>.cons a (mkL l)
def ofV1:Value→AV
 |.bool b=>.b b
 |.int k n=>if k.wrap n=n then .i k n else .un
 |.string s=>.s s.data.size (sNat s.data.toList)
 |x=>.v x
def ofV:Value→AV
 |.agg cs=>.k 0 0 (mkL (cs.toList.map ofV1))
 |.tuple cs=>if cs.size=0 then .v (.tuple #[]) else .k 1 0 (mkL (cs.toList.map ofV1))
 |x=>ofV1 x
inductive Ref|p (i:Nat)|o (x:OW)
abbrev Ds:=List (Nat×Ref)
def find(t:Nat):Ds→Option Ref
 |[]=>none
 |u::l=>bif Nat.beq u.1 t then some u.2 else find t l
def pos(t:Nat):List Nat→Nat→Option Nat
 |[],_=>none
 |u::l,n=>bif Nat.beq u t then some n else pos t l (Nat.succ n)
def tmW(vs:List Nat)(t:Nat):OW:=match pos t vs 0 with|some n=>⟨fun _ tm=>(tw n).g tm⟩|none=>⟨fun _ _=>.un⟩
structure Sx where (ti:Tr TypeInfo 5) (vs:List Nat) (all:List Oper) (ds:Ds) (n:Nat) (fa:Bool)
def opd(s:Sx):Operand→OW
 |.tmp t=>match find t s.ds with|some (.p i)=>eW (Nat.sub (Nat.sub s.n 1) i)|some (.o x)=>x|none=>tmW s.vs t
 |.const v=>⟨fun _ _=>ofV v⟩
 |.global g=>⟨fun _ _=>.ptr g 0⟩
 |.func f=>⟨fun _ _=>.k 2 f .nil⟩
structure Ih where (c:FuncId→Nat→TM→HS→Res) (y:Nat→AV→HS→Res)
structure MT where (f:E→TM→(TM→Res)→Res)
structure Cx where (ih:Ih) (C:TM→HS→Res)
abbrev Rf:=Cx→E→TM→HS→Res
structure WR where (f:Rf)
def purely{α:Type}(P:Program):Sem α→Option α
 |.pure a=>some a
 |.program k=>purely P (k P)
 |.mark _ k=>purely P k
 |_=>none
def lst:AV→Option (List AV)
 |.nil=>some []
 |.cons a l=>(lst l).map (a::·)
 |_=>none
def bsOf(l n:Nat):ByteArray:=⟨((List.range l).map fun i=>UInt8.ofNat (n / 256 ^ i % 256)).toArray⟩
def val1:AV→Option Value
 |.v x=>some x
 |.b x=>some (.bool x)
 |.i k n=>some (.int k n)
 |.s l n=>some (.string (bsOf l n))
 |_=>none
def fV(a:AV)(C:AV→Res):Res:=AV.rec (motive:=fun _=>Res) .fail (C .nil) (fun x l _ _=>C (.cons x l)) (fun x=>C (.v x)) (fun g b=>C (.r g b)) (fun g t l _=>C (.k g t l)) (fun l n=>fN l fun l=>fN n fun n=>C (.s l n)) (fun b e o k n c=>C (.sl b e o k n c)) (fun b o=>C (.ptr b o)) (fun x=>cB x C) (fun k n=>cI k n C) a
def ldN(d:Nat)(cs:Tr AV d)(n:Nat):Nat→(AV→Res)→Res:=Nat.rec (motive:=fun _=>Nat→(AV→Res)→Res) (fun _ C=>C .nil) (fun _ ih o C=>ih (Nat.succ o) fun l=>C (.cons ((gw AV d o).f cs) l)) n
def stN(d:Nat)(l:AV):Nat→Tr AV d→(Tr AV d→Nat→Res)→Res:=AV.rec (motive:=fun _=>Nat→Tr AV d→(Tr AV d→Nat→Res)→Res) (fun _ _ _=>.fail) (fun o cs C=>C cs o) (fun x _ _ ih o cs C=>(pw AV d o).f x cs fun cs=>ih (Nat.succ o) cs C) (fun _ _ _ _=>.fail) (fun _ _ _ _ _=>.fail) (fun _ _ _ _ _ _ _=>.fail) (fun _ _ _ _ _=>.fail) (fun _ _ _ _ _ _ _ _ _=>.fail) (fun _ _ _ _ _=>.fail) (fun _ _ _ _=>.fail) (fun _ _ _ _ _=>.fail) l
abbrev BI:=IntKind→Int→Int→(AV→Res)→Res
def cvS(k:IntKind)(n:Int)(C:AV→Res):Res:=cI k (k.wrap n) C
def cvI(k:IntKind)(n:Int)(C:AV→Res):Res:=Int.rec (motive:=fun _=>Res) (fun a=>Bool.rec (motive:=fun _=>Res) (cvS k n C) (cN k a C) (Nat.ble a 127)) (fun _=>cvS k n C) n
def addS:BI:=fun k n m C=>cI k (k.wrap (n+m)) C
def subS:BI:=fun k n m C=>cI k (k.wrap (n-m)) C
def addN(k:IntKind)(a b:Nat)(C:AV→Res):Res:=Bool.rec (motive:=fun _=>Res) (addS k (.ofNat a) (.ofNat b) C) (cN k (Nat.add a b) C) (Nat.ble (Nat.add a b) 127)
def subN(k:IntKind)(a b:Nat)(C:AV→Res):Res:=Bool.rec (motive:=fun _=>Res) (subS k (.ofNat a) (.ofNat b) C) (cN k (Nat.sub a b) C) (and (Nat.ble b a) (Nat.ble a 127))
def addI:BI:=fun k n m C=>Int.rec (motive:=fun _=>Res) (fun a=>Int.rec (motive:=fun _=>Res) (fun b=>addN k a b C) (fun _=>addS k n m C) m) (fun _=>addS k n m C) n
def subI:BI:=fun k n m C=>Int.rec (motive:=fun _=>Res) (fun a=>Int.rec (motive:=fun _=>Res) (fun b=>subN k a b C) (fun _=>subS k n m C) m) (fun _=>subS k n m C) n
def cmpI(p:Nat→Nat→Bool)(x y:Bool)(q:Nat→Nat→Bool):BI:=fun _ n m C=>Int.rec (motive:=fun _=>Res) (fun a=>Int.rec (motive:=fun _=>Res) (fun b=>cB (p a b) C) (fun _=>C (.b x)) m) (fun a=>Int.rec (motive:=fun _=>Res) (fun _=>C (.b y)) (fun b=>cB (q a b) C) m) n
def lssI:BI:=cmpI Nat.blt false true fun a b=>Nat.blt b a
def slwI(op:BinOp):BI:=fun k n m C=>oR (purely default (binOp op 0 (.int k n) (.int k m))) fun v=>fV (ofV1 v) C
def mulI:BI:=fun k n m C=>cI k (k.wrap (n*m)) C
def natI(op:BinOp)(g:Nat→Nat→Nat):BI:=fun k n m C=>Int.rec (motive:=fun _=>Res) (fun a=>Int.rec (motive:=fun _=>Res) (fun b=>cN k (g a b) C) (fun _=>slwI op k n m C) m) (fun _=>slwI op k n m C) n
def divI(op:BinOp)(g:Nat→Nat→Nat):BI:=fun k n m C=>Int.rec (motive:=fun _=>Res) (fun a=>Int.rec (motive:=fun _=>Res) (fun b=>Bool.rec (motive:=fun _=>Res) (cN k (g a b) C) .fail (Nat.beq b 0)) (fun _=>slwI op k n m C) m) (fun _=>slwI op k n m C) n
def shlI:BI:=fun k n m C=>Int.rec (motive:=fun _=>Res) (fun a=>Int.rec (motive:=fun _=>Res) (fun b=>Bool.rec (motive:=fun _=>Res) (slwI .shl k n m C) (cI k (k.wrap (.ofNat (Nat.shiftLeft a b))) C) (Nat.ble b 63)) (fun _=>slwI .shl k n m C) m) (fun _=>slwI .shl k n m C) n
def kN(k:IntKind):Nat:=match k with|.i8=>0|.i16=>1|.i32=>2|.i64=>3|.u8=>4|.u16=>5|.u32=>6|.u64=>7
structure WI where (f:BI) (o:BinOp)
def selI(op:BinOp):WI:=match op with
 |.add=>⟨addI,op⟩|.sub=>⟨subI,op⟩|.lss=>⟨lssI,op⟩|.leq=>⟨cmpI Nat.ble false true (fun a b=>Nat.ble b a),op⟩|.gtr=>⟨cmpI (fun a b=>Nat.blt b a) true false Nat.blt,op⟩|.geq=>⟨cmpI (fun a b=>Nat.ble b a) true false Nat.ble,op⟩|.eql=>⟨cmpI Nat.beq false false Nat.beq,op⟩|.neq=>⟨cmpI (fun a b=>not (Nat.beq a b)) true true fun a b=>not (Nat.beq a b),op⟩
 |.and=>⟨natI .and Nat.land,op⟩|.or=>⟨natI .or Nat.lor,op⟩|.xor=>⟨natI .xor Nat.xor,op⟩|.mul=>⟨mulI,op⟩|.quo=>⟨divI .quo Nat.div,op⟩|.rem=>⟨divI .rem Nat.mod,op⟩|.shr=>⟨natI .shr Nat.shiftRight,op⟩|.shl=>⟨shlI,op⟩
 |_=>⟨fun _ _ _ _=>.fail,op⟩
def normS(l n:Nat):Bool:=Nat.blt n (Nat.pow 256 l)
def lessS:Nat→Nat→Nat→Nat→Nat→Bool
 |0,_,_,_,_=>false
 |f+1,la,a,lb,b=>match lb with
  |0=>false
  |lb+1=>match la with
   |0=>true
   |la+1=>bif Nat.blt (Nat.mod a 256) (Nat.mod b 256) then true else bif Nat.beq (Nat.mod a 256) (Nat.mod b 256) then lessS f la (Nat.div a 256) lb (Nat.div b 256) else false
def strB(op:BinOp)(la a lb b:Nat):Option Bool:=
 match op with
 |.eql=>some (and (Nat.beq la lb) (Nat.beq a b))
 |.neq=>some (not (and (Nat.beq la lb) (Nat.beq a b)))
 |.lss=>some (lessS (la+1) la a lb b)
 |.leq=>some (not (lessS (lb+1) lb b la a))
 |.gtr=>some (lessS (lb+1) lb b la a)
 |.geq=>some (not (lessS (la+1) la a lb b))
 |_=>none
def isAdd:BinOp→Bool|.add=>true|_=>false
def strI(op:BinOp)(la a lb b:Nat)(C:AV→Res):Res:=
 iB (and (and (normS la a) (normS lb b)) (Nat.ble (Nat.add la lb) 9223372036854775807)) (iB (isAdd op) (fN (Nat.add la lb) fun l=>fN (Nat.add a (Nat.mul b (Nat.pow 256 la))) fun n=>C (.s l n)) (oR (strB op la a lb b) fun x=>cB x C)) .fail
def nilC(op:BinOp):Option Bool:=match op with|.eql=>some false|.neq=>some true|_=>none
def isNu(g:Nat):Bool:=and (Nat.ble 10 g) (Nat.blt g 40)
def isTx(g:Nat):Bool:=and (Nat.ble 40 g) (Nat.blt g 70)
def numC(l n:Nat):Bool:=or (Nat.beq l 0) (not (or (Nat.beq (Nat.mod n 256) 45) (and (Nat.ble 48 (Nat.mod n 256)) (Nat.ble (Nat.mod n 256) 57))))
def segs:AV→Option (Nat×Nat)
 |.nil=>some (0,0)
 |.cons (.s l _) t=>match segs t with|some (a,b)=>some (Nat.add l a,Nat.add l b)|none=>none
 |.cons (.r g _) t=>bif isTx g then (match segs t with|some (a,b)=>some (Nat.add 1 a,Nat.add 21 b)|none=>none) else none
 |_=>none
def snoc:AV→AV→AV
 |.cons y l,x=>.cons y (snoc l x)
 |_,x=>.cons x .nil
def catK(l:AV):Option AV:=match segs l with
 |some (_,b)=>bif Nat.ble b 1099511627776 then some (.k 4 0 l) else none
 |none=>none
def catS(k x:AV):Option AV:=match segs k with|some _=>catK (snoc k x)|none=>none
def ubd(l:AV):Option Nat:=match l with|.cons (.i .i64 (.ofNat u)) .nil=>some u|_=>none
def itv(lb ub:Nat):Option AV:=bif Nat.ble ub 1099511627776 then some (.k 6 lb (.cons (.i .i64 (.ofNat ub)) .nil)) else none
def itL(op:BinOp)(lb ub n:Nat):Option AV:=match op with
 |.gtr=>bif Nat.ble ub n then some (.b false) else bif Nat.blt n lb then some (.b true) else none
 |.lss=>bif Nat.ble n lb then some (.b false) else bif Nat.blt ub n then some (.b true) else none
 |.leq=>bif Nat.ble ub n then some (.b true) else bif Nat.blt n lb then some (.b false) else none
 |.geq=>bif Nat.ble n lb then some (.b true) else bif Nat.blt ub n then some (.b false) else none
 |.add=>itv (Nat.add lb n) (Nat.add ub n)
 |.mul=>itv (Nat.mul lb n) (Nat.mul ub n)
 |_=>none
def itR(op:BinOp)(n lb ub:Nat):Option AV:=match op with
 |.leq=>bif Nat.ble n lb then some (.b true) else bif Nat.blt ub n then some (.b false) else none
 |.add=>itv (Nat.add n lb) (Nat.add n ub)
 |.mul=>itv (Nat.mul n lb) (Nat.mul n ub)
 |_=>none
def opq(op:BinOp)(a b:AV):Option AV:=match a,b with
 |.r g i,.r h j=>bif and (and (Nat.beq g h) (Nat.beq i j)) (or (isNu g) (isTx g)) then (match op with
  |.eql=>some (.b true)
  |.neq=>some (.b false)
  |.add=>bif and (isNu g) (Nat.blt g 39) then some (.r (Nat.succ g) i) else none
  |_=>none) else none
 |.r g i,.s l n=>bif isTx g then (match op with
  |.eql=>bif numC l n then some (.b false) else none
  |.neq=>bif numC l n then some (.b true) else none
  |.add=>catK (.cons (.r g i) (.cons (.s l n) .nil))
  |_=>none) else none
 |.s l n,.r g i=>bif isTx g then (match op with
  |.eql=>bif numC l n then some (.b false) else none
  |.neq=>bif numC l n then some (.b true) else none
  |.add=>catK (.cons (.s l n) (.cons (.r g i) .nil))
  |_=>none) else none
 |.k 4 _ k,.s l n=>match op with|.add=>catS k (.s l n)|_=>none
 |.k 4 _ k,.r g i=>match op with|.add=>bif isTx g then catS k (.r g i) else none|_=>none
 |.s l n,.k 4 _ k=>match op with|.add=>catK (.cons (.s l n) k)|_=>none
 |.r g _,.i .i64 (.ofNat n)=>bif and (isNu g) (Nat.beq n 0) then (match op with|.mul=>some (.i .i64 (.ofNat 0))|_=>none) else none
 |.i .i64 (.ofNat n),.r g _=>bif and (isNu g) (Nat.beq n 0) then (match op with|.mul=>some (.i .i64 (.ofNat 0))|_=>none) else none
 |.k 6 lb k,.i .i64 (.ofNat n)=>match ubd k with|some ub=>itL op lb ub n|none=>none
 |.i .i64 (.ofNat n),.k 6 lb k=>match ubd k with|some ub=>itR op n lb ub|none=>none
 |_,_=>none
def slowB(P:Program)(tk:Nat)(op:BinOp)(t:TypeId)(x y:Operand)(a b:AV):Option AV:=
 match a,b with
 |.b a,.b b=>bif Nat.beq tk 4 then (match op with|.eql=>some (.b (a==b))|.neq=>some (.b (a !=b))|_=>none) else none
 |.i k a,.i k' b=>match purely P (binOp op t (.int k a) (.int k' b)) with|some v=>some (ofV1 v)|none=>none
 |.v u,.v w=>match purely P (do eqGuard op t x y u w;binOp op t u w) with|some v=>some (ofV1 v)|none=>none
 |.k 0 _ a,.k 0 _ b=>match lst a,lst b with
  |some a,some b=>match a.mapM val1,b.mapM val1 with
   |some u,some w=>match purely P (do eqGuard op t x y (.agg u.toArray) (.agg w.toArray);binOp op t (.agg u.toArray) (.agg w.toArray)) with|some v=>some (ofV1 v)|none=>none
   |_,_=>none
  |_,_=>none
 |.k 3 _ _,.v .nilIface=>bif Nat.beq tk 1 then (nilC op).map .b else none
 |.v .nilIface,.k 3 _ _=>bif Nat.beq tk 1 then (nilC op).map .b else none
 |.sl ..,.v (.slice none _ _)=>bif Nat.beq tk 2 then (nilC op).map .b else none
 |.ptr ..,.v (.pointer none)=>bif Nat.beq tk 3 then (nilC op).map .b else none
 |_,_=>none
def byN(a:AV):Option Nat:=match a with|.i .u8 (.ofNat m)=>some m|_=>none
def strOf:AV→Option Nat
 |.nil=>some 0
 |.cons a l=>match byN a with|some m=>(strOf l).map fun r=>Nat.add m (Nat.mul 256 r)|none=>none
 |_=>none
def gL(l:List OW)(e:E)(tm:TM):AV:=List.rec (motive:=fun _=>AV) .nil (fun x _ ih=>.cons (x.f e tm) ih) l
def lenA:AV→Nat
 |.cons _ l=>Nat.succ (lenA l)
 |_=>0
def eT:TM:=⟨.un,.un,.un,.un,.un,.un,.un,.un,eTr .un 3⟩
def putT(l:AV):Nat→TM→(TM→Res)→Res:=AV.rec (motive:=fun _=>Nat→TM→(TM→Res)→Res) (fun _ _ _=>.fail) (fun _ tm C=>C tm) (fun x _ _ ih n tm C=>(tw n).p x tm fun tm=>ih (Nat.succ n) tm C) (fun _ _ _ _=>.fail) (fun _ _ _ _ _=>.fail) (fun _ _ _ _ _ _ _=>.fail) (fun _ _ _ _ _=>.fail) (fun _ _ _ _ _ _ _ _ _=>.fail) (fun _ _ _ _ _=>.fail) (fun _ _ _ _=>.fail) (fun _ _ _ _ _=>.fail) l
def tmL(l:AV)(C:TM→Res):Res:=iB (Nat.ble (lenA l) 72) (putT l 0 eT C) .fail
def mkMT(l:List OW):MT:=match l with
 |[]=>⟨fun _ _ C=>C eT⟩
 |[x0]=>⟨fun e tm C=>C ⟨x0.f e tm,.un,.un,.un,.un,.un,.un,.un,eTr .un 3⟩⟩
 |[x0,x1]=>⟨fun e tm C=>C ⟨x0.f e tm,x1.f e tm,.un,.un,.un,.un,.un,.un,eTr .un 3⟩⟩
 |[x0,x1,x2]=>⟨fun e tm C=>C ⟨x0.f e tm,x1.f e tm,x2.f e tm,.un,.un,.un,.un,.un,eTr .un 3⟩⟩
 |[x0,x1,x2,x3]=>⟨fun e tm C=>C ⟨x0.f e tm,x1.f e tm,x2.f e tm,x3.f e tm,.un,.un,.un,.un,eTr .un 3⟩⟩
 |[x0,x1,x2,x3,x4]=>⟨fun e tm C=>C ⟨x0.f e tm,x1.f e tm,x2.f e tm,x3.f e tm,x4.f e tm,.un,.un,.un,eTr .un 3⟩⟩
 |[x0,x1,x2,x3,x4,x5]=>⟨fun e tm C=>C ⟨x0.f e tm,x1.f e tm,x2.f e tm,x3.f e tm,x4.f e tm,x5.f e tm,.un,.un,eTr .un 3⟩⟩
 |l=>⟨fun e tm C=>tmL (gL l e tm) C⟩
def dropA(k:Nat):AV→(AV→Res)→Res:=Nat.rec (motive:=fun _=>AV→(AV→Res)→Res) (fun l C=>C l) (fun _ ih l C=>asK l fun _ t=>ih t C) k
def takeA(n:Nat):AV→(AV→Res)→Res:=Nat.rec (motive:=fun _=>AV→(AV→Res)→Res) (fun _ C=>C .nil) (fun _ ih l C=>asK l fun x t=>ih t fun t=>C (.cons x t)) n
def partF(ag:Bool)(off n:Nat)(l:AV)(C:AV→Res):Res:=dropA off l fun l=>iB ag (takeA n l fun l=>C (.k 0 0 l)) (asK l fun x _=>C x)
def anN(C:Nat→Res)(zz:Int):Res:=Int.rec (motive:=fun _=>Res) C (fun _=>.fail) zz
def aN(C:Nat→Res)(a:AV):Res:=AV.rec (motive:=fun _=>Res) .fail .fail (fun _ _ _ _=>.fail) (fun _=>.fail) (fun _ _=>.fail) (fun _ _ _ _=>.fail) (fun _ _=>.fail) (fun _ _ _ _ _ _=>.fail) (fun _ _=>.fail) (fun _=>.fail) (fun _ zz=>anN C zz) a
def gON(x:Option OW)(d:Nat)(e:E)(tm:TM)(C:Nat→Res):Res:=Option.rec (motive:=fun _=>Res) (C d) (fun x=>aN C (x.f e tm)) x
def subO(l:Nat):Option Nat→Option Nat
 |none=>none
 |some c=>some (Nat.sub c l)
def sliceV(b e o k n:Nat)(c:Option Nat)(l h:Nat)(m:Option Nat):Option AV:=
 bif and (Nat.ble h n) (Nat.ble l h) then
  match m with
  |none=>some (.sl b e (Nat.add o l) (bif Nat.beq l 0 then k else o) (Nat.sub h l) (subO l c))
  |some m=>bif and (and (Nat.ble m n) (Nat.ble h m)) (or (not (Nat.beq l 0)) (Nat.beq k o)) then some (.sl b e (Nat.add o l) o (Nat.sub h l) (some (Nat.sub m l))) else none
 else none
def fSl(a:AV)(C:AV→Res):Res:=asL a fun b e o k n c=>fN o fun o=>fN k fun k=>fN n fun n=>Option.rec (motive:=fun _=>Res) (C (.sl b e o k n none)) (fun c=>fN c fun c=>C (.sl b e o k n (some c))) c
def putV(v:AV):AV→(AV→Res)→Res:=AV.rec (motive:=fun _=>AV→(AV→Res)→Res) (fun _ _=>.fail) (fun l C=>C l) (fun x _ _ ih l C=>asK l fun _ t=>ih t fun t=>C (.cons x t)) (fun _ _ _=>.fail) (fun _ _ _ _=>.fail) (fun _ _ _ _ _ _=>.fail) (fun _ _ _ _=>.fail) (fun _ _ _ _ _ _ _ _=>.fail) (fun _ _ _ _=>.fail) (fun _ _ _=>.fail) (fun _ _ _ _=>.fail) v
def putA(off:Nat)(v:AV):AV→(AV→Res)→Res:=Nat.rec (motive:=fun _=>AV→(AV→Res)→Res) (fun l C=>putV v l C) (fun _ ih l C=>asK l fun x t=>ih t fun t=>C (.cons x t)) off
def cellsA(a:AV):AV:=match a with|.k 0 _ l=>l|a=>.cons a .nil
def bldN(ps:List ((Nat×Nat)×OW)):E→TM→AV→(AV→Res)→Res:=List.rec (motive:=fun _=>E→TM→AV→(AV→Res)→Res) (fun _ _ l C=>C l)
 (fun p _ ih e tm l C=>cellsC (p.2.f e tm) fun a=>iB (Nat.beq (lenA a) p.1.2) (putA p.1.1 a l fun l=>ih e tm l C) .fail) ps
def findM(l n:Nat):List (Nat×Nat×AV)→Option AV
 |[]=>none
 |q::es=>bif and (Nat.beq q.1 l) (Nat.beq q.2.1 n) then some q.2.2 else findM l n es
def tyQ(ty:TypeId)(qq:Option TypeId)(C:Option TypeId→Res):Res:=Option.rec (motive:=fun _=>Res) (C none) (fun u=>Bool.rec (motive:=fun _=>Res) (C none) (C (some ty)) (Nat.beq u ty)) qq
def isQ(ty:TypeId)(qq:Option TypeId)(C:Unit→Res):Res:=Option.rec (motive:=fun _=>Res) .fail (fun u=>Bool.rec (motive:=fun _=>Res) .fail (C ()) (Nat.beq u ty)) qq
def newB(qq:Option TypeId)(l:AV)(h:Tr Blk 7)(nx:Nat)(C:Tr Blk 7→Nat→Res):Res:=iB (Nat.blt nx 16384) (iB (Nat.ble (lenA l) 16) (stN 2 l 0 (eTr .un 2) fun cs n=>fN n fun n=>(pw Blk 7 nx).f (.s qq cs n) h fun h=>fN (Nat.succ nx) fun nx=>C h nx) (iB (Nat.ble (lenA l) 4096) (stN 6 l 0 (eTr .un 6) fun cs n=>fN n fun n=>(pw Blk 7 nx).f (.c qq cs n) h fun h=>fN (Nat.succ nx) fun nx=>C h nx) .fail)) .fail
def repA(z:AV):Nat→AV→AV
 |0,l=>l
 |n+1,l=>AV.rec (motive:=fun _=>AV) .nil (repA z n l) (fun x _ _ ih=>.cons x ih) (fun _=>.nil) (fun _ _=>.nil) (fun _ _ _ _=>.nil) (fun _ _=>.nil) (fun _ _ _ _ _ _=>.nil) (fun _ _=>.nil) (fun _=>.nil) (fun _ _=>.nil) z
def bytesA(n:Nat):Nat→AV
 |0=>.nil
 |l+1=>.cons (.i .u8 (.ofNat (Nat.mod n 256))) (bytesA (Nat.div n 256) l)
def isNilS:Value→Bool|.slice none 0 0=>true|_=>false
def isNilI:Value→Bool|.nilIface=>true|_=>false
def mst(most:Option Nat)(l:Nat):Nat:=match most with|none=>l|some m=>bif Nat.ble l m then l else m
def srcC(s0:Nat)(h:Tr Blk 7)(x:AV)(most:Option Nat)(C:AV→Nat→Res):Res:=AV.rec (motive:=fun _=>Res) .fail .fail (fun _ _ _ _=>.fail) (fun x=>Bool.rec (motive:=fun _=>Res) (.fail) (C .nil 0) (isNilS x)) (fun _ _=>.fail) (fun _ _ _ _=>.fail) (fun l n=>Bool.rec (motive:=fun _=>Res) .fail (C (bytesA n (mst most l)) (mst most l)) (Nat.beq s0 1)) (fun b e o _ n _=>fN (mst most n) fun n=>Blk.rec (motive:=fun _=>Res) .fail (fun _ _ _ _ _ _=>.fail) (fun _=>.fail) (fun _qq cs nb=>Bool.rec (motive:=fun _=>Res) (.fail) (ldN 2 cs (Nat.mul n e) (Nat.mul o e) fun l=>C l n) (and (Nat.beq e s0) (Nat.ble (Nat.add (Nat.mul o e) (Nat.mul n e)) nb))) (fun _qq cs nb=>Bool.rec (motive:=fun _=>Res) (.fail) (ldN 6 cs (Nat.mul n e) (Nat.mul o e) fun l=>C l n) (and (Nat.beq e s0) (Nat.ble (Nat.add (Nat.mul o e) (Nat.mul n e)) nb))) (fun _=>.fail) (((gw Blk 7 b).f h))) (fun _ _=>.fail) (fun _=>.fail) (fun _ _=>.fail) x
def catA(a:AV)(l:AV)(C:AV→Res):Res:=AV.rec (motive:=fun _=>(AV→Res)→Res) (fun _=>.fail) (fun C=>C l) (fun x _ _ ih C=>ih fun t=>C (.cons x t)) (fun _ _=>.fail) (fun _ _ _=>.fail) (fun _ _ _ _ _=>.fail) (fun _ _ _=>.fail) (fun _ _ _ _ _ _ _=>.fail) (fun _ _ _=>.fail) (fun _ _=>.fail) (fun _ _ _=>.fail) a C
def appIn(o n m sz nb:Nat)(c:Option Nat):Bool:=match c with|none=>Nat.ble (Nat.mul (Nat.add o (Nat.add n m)) sz) nb|some c0=>Nat.ble (Nat.add n m) c0
def movF(x:OW)(k:WR):Rf:=fun X e tm H=>k.f X (.c (x.f e tm) e) tm H
def asgF(x:OW)(d:TW)(k:WR):Rf:=fun X e tm H=>d.p (x.f e tm) tm fun tm=>k.f X e tm H
def topF(d:TW)(k:WR):Rf:=fun X e tm H=>E.rec (motive:=fun _=>Res) .fail (fun v _ _=>d.p v tm fun tm=>k.f X e tm H) e
def undF(k:WR):Rf:=fun X e tm H=>k.f X (.c (.v undef) e) tm H
def pkG(C:AV→Res)(x y a:AV):Res:=AV.rec (motive:=fun _=>Res) .fail .fail (fun _ _ _ _=>.fail) (fun _=>.fail) (fun _ _=>.fail) (fun _ _ _ _=>.fail) (fun _ _=>.fail) (fun _ _ _ _ _ _=>.fail) (fun _ _=>.fail) (fun t=>Bool.rec (motive:=fun _=>Res) (C y) (C x) t) (fun _ _=>.fail) a
def pickF(c a b:OW)(k:WR):Rf:=fun X e tm H=>pkG (fun v=>k.f X (.c v e) tm H) (a.f e tm) (b.f e tm) (c.f e tm)
def ld2(C:AV→Res)(o:Nat)(_qq:Option TypeId)(cs:Tr AV 2)(n:Nat):Res:=Bool.rec (motive:=fun _=>Res) .fail (C ((gw AV 2 o).f cs)) (Nat.blt o n)
def ld6(C:AV→Res)(o:Nat)(_qq:Option TypeId)(cs:Tr AV 6)(n:Nat):Res:=Bool.rec (motive:=fun _=>Res) .fail (C ((gw AV 6 o).f cs)) (Nat.blt o n)
def ldB(C:AV→Res)(o:Nat)(B:Blk):Res:=Blk.rec (motive:=fun _=>Res) .fail (fun _ _ _ _ _ _=>.fail) (fun _=>.fail) (ld2 C o) (ld6 C o) (fun _=>.fail) B
def ldP(q:Nat)(H:HS)(C:AV→Res)(b o:Nat):Res:=ldB C (Nat.add o q) ((gw Blk 7 b).f H.h)
def ldG(q:Nat)(H:HS)(C:AV→Res)(a:AV):Res:=AV.rec (motive:=fun _=>Res) .fail .fail (fun _ _ _ _=>.fail) (fun _=>.fail) (fun _ _=>.fail) (fun _ _ _ _=>.fail) (fun _ _=>.fail) (fun _ _ _ _ _ _=>.fail) (ldP q H C) (fun _=>.fail) (fun _ _=>.fail) a
def lA2(C:AV→Res)(m o:Nat)(_qq:Option TypeId)(cs:Tr AV 2)(n:Nat):Res:=Bool.rec (motive:=fun _=>Res) .fail (ldN 2 cs m o fun l=>C (.k 0 0 l)) (Nat.ble (Nat.add o m) n)
def lA6(C:AV→Res)(m o:Nat)(_qq:Option TypeId)(cs:Tr AV 6)(n:Nat):Res:=Bool.rec (motive:=fun _=>Res) .fail (ldN 6 cs m o fun l=>C (.k 0 0 l)) (Nat.ble (Nat.add o m) n)
def lAB(C:AV→Res)(m o:Nat)(B:Blk):Res:=Blk.rec (motive:=fun _=>Res) .fail (fun _ _ _ _ _ _=>.fail) (fun _=>.fail) (lA2 C m o) (lA6 C m o) (fun _=>.fail) B
def lAP(q m:Nat)(H:HS)(C:AV→Res)(b o:Nat):Res:=lAB C m (Nat.add o q) ((gw Blk 7 b).f H.h)
def lAG(q m:Nat)(H:HS)(C:AV→Res)(a:AV):Res:=AV.rec (motive:=fun _=>Res) .fail .fail (fun _ _ _ _=>.fail) (fun _=>.fail) (fun _ _=>.fail) (fun _ _ _ _=>.fail) (fun _ _=>.fail) (fun _ _ _ _ _ _=>.fail) (lAP q m H C) (fun _=>.fail) (fun _ _=>.fail) a
def ld1F(x:OW)(k:WR):Rf:=fun X e tm H=>ldG 0 H (fun v=>k.f X (.c v e) tm H) (x.f e tm)
def ldAF(m:Nat)(x:OW)(k:WR):Rf:=fun X e tm H=>lAG 0 m H (fun v=>k.f X (.c v e) tm H) (x.f e tm)
def lf1F(q:Nat)(x:OW)(k:WR):Rf:=fun X e tm H=>ldG q H (fun v=>k.f X (.c v e) tm H) (x.f e tm)
def lfAF(q m:Nat)(x:OW)(k:WR):Rf:=fun X e tm H=>lAG q m H (fun v=>k.f X (.c v e) tm H) (x.f e tm)
def sp2(C:Tr Blk 7→Res)(v:AV)(h:Tr Blk 7)(b o:Nat)(qq:Option TypeId)(cs:Tr AV 2)(n:Nat):Res:=Bool.rec (motive:=fun _=>Res) .fail ((pw AV 2 o).f v cs fun cs=>(pw Blk 7 b).f (.s qq cs n) h C) (Nat.blt o n)
def sp6(C:Tr Blk 7→Res)(v:AV)(h:Tr Blk 7)(b o:Nat)(qq:Option TypeId)(cs:Tr AV 6)(n:Nat):Res:=Bool.rec (motive:=fun _=>Res) .fail ((pw AV 6 o).f v cs fun cs=>(pw Blk 7 b).f (.c qq cs n) h C) (Nat.blt o n)
def spB(C:Tr Blk 7→Res)(v:AV)(h:Tr Blk 7)(b o:Nat)(B:Blk):Res:=Blk.rec (motive:=fun _=>Res) .fail (fun _ _ _ _ _ _=>.fail) (fun _=>.fail) (sp2 C v h b o) (sp6 C v h b o) (fun _=>.fail) B
def spP(q:Nat)(C:Tr Blk 7→Res)(v:AV)(h:Tr Blk 7)(b o:Nat):Res:=spB C v h b (Nat.add o q) ((gw Blk 7 b).f h)
def spG(q:Nat)(C:Tr Blk 7→Res)(v:AV)(h:Tr Blk 7)(a:AV):Res:=AV.rec (motive:=fun _=>Res) .fail .fail (fun _ _ _ _=>.fail) (fun _=>.fail) (fun _ _=>.fail) (fun _ _ _ _=>.fail) (fun _ _=>.fail) (fun _ _ _ _ _ _=>.fail) (spP q C v h) (fun _=>.fail) (fun _ _=>.fail) a
def sA2(C:Tr Blk 7→Res)(l:AV)(m:Nat)(h:Tr Blk 7)(b o:Nat)(qq:Option TypeId)(cs:Tr AV 2)(n:Nat):Res:=Bool.rec (motive:=fun _=>Res) .fail (stN 2 l o cs fun cs o2=>Bool.rec (motive:=fun _=>Res) (.fail) ((pw Blk 7 b).f (.s qq cs n) h C) (Nat.beq o2 (Nat.add o m))) (Nat.ble (Nat.add o m) n)
def sA6(C:Tr Blk 7→Res)(l:AV)(m:Nat)(h:Tr Blk 7)(b o:Nat)(qq:Option TypeId)(cs:Tr AV 6)(n:Nat):Res:=Bool.rec (motive:=fun _=>Res) .fail (stN 6 l o cs fun cs o2=>Bool.rec (motive:=fun _=>Res) (.fail) ((pw Blk 7 b).f (.c qq cs n) h C) (Nat.beq o2 (Nat.add o m))) (Nat.ble (Nat.add o m) n)
def sAB(C:Tr Blk 7→Res)(l:AV)(m:Nat)(h:Tr Blk 7)(b o:Nat)(B:Blk):Res:=Blk.rec (motive:=fun _=>Res) .fail (fun _ _ _ _ _ _=>.fail) (fun _=>.fail) (sA2 C l m h b o) (sA6 C l m h b o) (fun _=>.fail) B
def sAP(q m:Nat)(C:Tr Blk 7→Res)(l:AV)(h:Tr Blk 7)(b o:Nat):Res:=sAB C l m h b (Nat.add o q) ((gw Blk 7 b).f h)
def sAL(q m:Nat)(C:Tr Blk 7→Res)(h:Tr Blk 7)(l a:AV):Res:=AV.rec (motive:=fun _=>Res) .fail .fail (fun _ _ _ _=>.fail) (fun _=>.fail) (fun _ _=>.fail) (fun _ _ _ _=>.fail) (fun _ _=>.fail) (fun _ _ _ _ _ _=>.fail) (sAP q m C l h) (fun _=>.fail) (fun _ _=>.fail) a
def sAG(q m:Nat)(C:Tr Blk 7→Res)(h:Tr Blk 7)(a v:AV):Res:=AV.rec (motive:=fun _=>Res) .fail .fail (fun _ _ _ _=>.fail) (fun _=>.fail) (fun _ _=>.fail) (fun zg _ l _=>Bool.rec (motive:=fun _=>Res) .fail (chkL l fun _=>sAL q m C h l a) (Nat.beq zg 0)) (fun _ _=>.fail) (fun _ _ _ _ _ _=>.fail) (fun _ _=>.fail) (fun _=>.fail) (fun _ _=>.fail) v
def hH(C:Tr Blk 7→Nat→Res)(H:HS):Res:=HS.rec (motive:=fun _=>Res) C H
def st1F(x y:OW)(k:WR):Rf:=fun X e tm H=>chk1 (y.f e tm) fun _=>hH (fun h nx=>spG 0 (fun h=>k.f X (.c (.v undef) e) tm ⟨h,nx⟩) (y.f e tm) h (x.f e tm)) H
def stAF(m:Nat)(x y:OW)(k:WR):Rf:=fun X e tm H=>hH (fun h nx=>sAG 0 m (fun h=>k.f X (.c (.v undef) e) tm ⟨h,nx⟩) h (x.f e tm) (y.f e tm)) H
def sf1F(q:Nat)(x y:OW)(k:WR):Rf:=fun X e tm H=>chk1 (y.f e tm) fun _=>hH (fun h nx=>spG q (fun h=>k.f X (.c (.v undef) e) tm ⟨h,nx⟩) (y.f e tm) h (x.f e tm)) H
def sfAF(q m:Nat)(x y:OW)(k:WR):Rf:=fun X e tm H=>hH (fun h nx=>sAG q m (fun h=>k.f X (.c (.v undef) e) tm ⟨h,nx⟩) h (x.f e tm) (y.f e tm)) H
def nlG(C:AV→Res)(a:AV):Res:=AV.rec (motive:=fun _=>Res) .fail .fail (fun _ _ _ _=>.fail) (fun _=>.fail) (fun _ _=>.fail) (fun zg f l _=>Bool.rec (motive:=fun _=>Res) .fail (C (.k 2 f l)) (Nat.beq zg 2)) (fun _ _=>.fail) (fun _ _ _ _ _ _=>.fail) (fun b o=>C (.ptr b o)) (fun _=>.fail) (fun _ _=>.fail) a
def nilF(x:OW)(k:WR):Rf:=fun X e tm H=>nlG (fun v=>k.f X (.c v e) tm H) (x.f e tm)
def fdG(q:Nat)(C:AV→Res)(a:AV):Res:=AV.rec (motive:=fun _=>Res) .fail .fail (fun _ _ _ _=>.fail) (fun _=>.fail) (fun _ _=>.fail) (fun _ _ _ _=>.fail) (fun _ _=>.fail) (fun _ _ _ _ _ _=>.fail) (fun b o=>fN (Nat.add o q) fun o=>C (.ptr b o)) (fun _=>.fail) (fun _ _=>.fail) a
def fldF(q:Nat)(x:OW)(k:WR):Rf:=fun X e tm H=>fdG q (fun v=>k.f X (.c v e) tm H) (x.f e tm)
def iaG(len sz:Nat)(C:AV→Res)(i:Nat)(a:AV):Res:=AV.rec (motive:=fun _=>Res) .fail .fail (fun _ _ _ _=>.fail) (fun _=>.fail) (fun _ _=>.fail) (fun _ _ _ _=>.fail) (fun _ _=>.fail) (fun _ _ _ _ _ _=>.fail) (fun b o=>Bool.rec (motive:=fun _=>Res) .fail (fN (Nat.add o (Nat.mul i sz)) fun o=>C (.ptr b o)) (Nat.blt i len)) (fun _=>.fail) (fun _ _=>.fail) a
def ixaF(len sz:Nat)(x y:OW)(k:WR):Rf:=fun X e tm H=>aN (fun i=>iaG len sz (fun v=>k.f X (.c v e) tm H) i (x.f e tm)) (y.f e tm)
def isG(s0:Nat)(C:AV→Res)(i:Nat)(a:AV):Res:=AV.rec (motive:=fun _=>Res) .fail .fail (fun _ _ _ _=>.fail) (fun _=>.fail) (fun _ _=>.fail) (fun _ _ _ _=>.fail) (fun _ _=>.fail) (fun b sz o _ n _=>Bool.rec (motive:=fun _=>Res) .fail (fN (Nat.mul (Nat.add o i) sz) fun o=>C (.ptr b o)) (and (Nat.beq sz s0) (Nat.blt i n))) (fun _ _=>.fail) (fun _=>.fail) (fun _ _=>.fail) a
def ixsF(s0:Nat)(x y:OW)(k:WR):Rf:=fun X e tm H=>aN (fun i=>isG s0 (fun v=>k.f X (.c v e) tm H) i (x.f e tm)) (y.f e tm)
def itG(C:AV→Res)(i:Nat)(a:AV):Res:=AV.rec (motive:=fun _=>Res) .fail .fail (fun _ _ _ _=>.fail) (fun _=>.fail) (fun _ _=>.fail) (fun _ _ _ _=>.fail) (fun l n=>Bool.rec (motive:=fun _=>Res) .fail (cN .u8 (Nat.mod (Nat.div n (Nat.pow 256 i)) 256) C) (Nat.blt i l)) (fun _ _ _ _ _ _=>.fail) (fun _ _=>.fail) (fun _=>.fail) (fun _ _=>.fail) a
def idxF(x y:OW)(k:WR):Rf:=fun X e tm H=>aN (fun i=>itG (fun v=>k.f X (.c v e) tm H) i (x.f e tm)) (y.f e tm)
def oG(C:AV→Res)(v:Option AV):Res:=Option.rec (motive:=fun _=>Res) .fail (fun v=>fV v C) v
def bi2(g:WI)(C:AV→Res)(q:IntKind)(n:Int)(q2:IntKind)(m:Int):Res:=Bool.rec (motive:=fun _=>Res) .fail (g.f q n m C) (Nat.beq (kN q) (kN q2))
def bi1(g:WI)(C:AV→Res)(b:AV)(q:IntKind)(n:Int):Res:=AV.rec (motive:=fun _=>Res) .fail .fail (fun _ _ _ _=>.fail) (fun _=>.fail) (fun h j=>oG C (opq g.o (.i q n) (.r h j))) (fun h t l _=>oG C (opq g.o (.i q n) (.k h t l))) (fun _ _=>.fail) (fun _ _ _ _ _ _=>.fail) (fun _ _=>.fail) (fun _=>.fail) (bi2 g C q n) b
def bi0(g:WI)(C:AV→Res)(a b:AV):Res:=AV.rec (motive:=fun _=>Res) .fail .fail (fun _ _ _ _=>.fail) (fun _=>.fail) (fun h j=>oG C (opq g.o (.r h j) b)) (fun h t l _=>oG C (opq g.o (.k h t l) b)) (fun _ _=>.fail) (fun _ _ _ _ _ _=>.fail) (fun _ _=>.fail) (fun _=>.fail) (bi1 g C b) a
def binIF(g:WI)(x y:OW)(k:WR):Rf:=fun X e tm H=>bi0 g (fun v=>k.f X (.c v e) tm H) (x.f e tm) (y.f e tm)
def bh2(g:WI)(C:AV→Res)(q:IntKind)(n:Int)(_q2:IntKind)(m:Int):Res:=g.f q n m C
def bh1(g:WI)(C:AV→Res)(b:AV)(q:IntKind)(n:Int):Res:=AV.rec (motive:=fun _=>Res) .fail .fail (fun _ _ _ _=>.fail) (fun _=>.fail) (fun _ _=>.fail) (fun _ _ _ _=>.fail) (fun _ _=>.fail) (fun _ _ _ _ _ _=>.fail) (fun _ _=>.fail) (fun _=>.fail) (bh2 g C q n) b
def bh0(g:WI)(C:AV→Res)(a b:AV):Res:=AV.rec (motive:=fun _=>Res) .fail .fail (fun _ _ _ _=>.fail) (fun _=>.fail) (fun _ _=>.fail) (fun _ _ _ _=>.fail) (fun _ _=>.fail) (fun _ _ _ _ _ _=>.fail) (fun _ _=>.fail) (fun _=>.fail) (bh1 g C b) a
def binHF(g:WI)(x y:OW)(k:WR):Rf:=fun X e tm H=>bh0 g (fun v=>k.f X (.c v e) tm H) (x.f e tm) (y.f e tm)
def bs1(op:BinOp)(C:AV→Res)(b:AV)(la a:Nat):Res:=AV.rec (motive:=fun _=>Res) .fail .fail (fun _ _ _ _=>.fail) (fun _=>.fail) (fun h j=>oG C (opq op (.s la a) (.r h j))) (fun h t l _=>oG C (opq op (.s la a) (.k h t l))) (fun lb b=>strI op la a lb b C) (fun _ _ _ _ _ _=>.fail) (fun _ _=>.fail) (fun _=>.fail) (fun _ _=>.fail) b
def bs0(op:BinOp)(C:AV→Res)(a b:AV):Res:=AV.rec (motive:=fun _=>Res) .fail .fail (fun _ _ _ _=>.fail) (fun _=>.fail) (fun h j=>oG C (opq op (.r h j) b)) (fun h t l _=>oG C (opq op (.k h t l) b)) (bs1 op C b) (fun _ _ _ _ _ _=>.fail) (fun _ _=>.fail) (fun _=>.fail) (fun _ _=>.fail) a
def binSF(op:BinOp)(x y:OW)(k:WR):Rf:=fun X e tm H=>bs0 op (fun v=>k.f X (.c v e) tm H) (x.f e tm) (y.f e tm)
def binXF(P:Program)(tk:Nat)(op:BinOp)(t:TypeId)(p q:Operand)(x y:OW)(k:WR):Rf:=fun X e tm H=>oG (fun v=>k.f X (.c v e) tm H) (slowB P tk op t p q (x.f e tm) (y.f e tm))
def unG(P:Program)(op:UnOp)(a:AV):Option AV:=match val1 a with|some v=>(match purely P (Op.unary op v) with|some v=>some (ofV1 v)|none=>none)|none=>none
def unF(P:Program)(op:UnOp)(x:OW)(k:WR):Rf:=fun X e tm H=>oG (fun v=>k.f X (.c v e) tm H) (unG P op (x.f e tm))
def ntG(C:AV→Res)(a:AV):Res:=AV.rec (motive:=fun _=>Res) .fail .fail (fun _ _ _ _=>.fail) (fun _=>.fail) (fun _ _=>.fail) (fun _ _ _ _=>.fail) (fun _ _=>.fail) (fun _ _ _ _ _ _=>.fail) (fun _ _=>.fail) (fun x=>cB (not x) C) (fun _ _=>.fail) a
def notF(x:OW)(k:WR):Rf:=fun X e tm H=>ntG (fun v=>k.f X (.c v e) tm H) (x.f e tm)
def cvG(r:IntKind)(C:AV→Res)(a:AV):Res:=AV.rec (motive:=fun _=>Res) .fail .fail (fun _ _ _ _=>.fail) (fun _=>.fail) (fun _ _=>.fail) (fun _ _ _ _=>.fail) (fun _ _=>.fail) (fun _ _ _ _ _ _=>.fail) (fun _ _=>.fail) (fun _=>.fail) (fun _ n=>cvI r n C) a
def cviF(r:IntKind)(x:OW)(k:WR):Rf:=fun X e tm H=>cvG r (fun v=>k.f X (.c v e) tm H) (x.f e tm)
def csG(C:AV→Res)(a:AV):Res:=AV.rec (motive:=fun _=>Res) .fail .fail (fun _ _ _ _=>.fail) (fun _=>.fail) (fun _ _=>.fail) (fun _ _ _ _=>.fail) (fun l n=>C (.s l n)) (fun _ _ _ _ _ _=>.fail) (fun _ _=>.fail) (fun _=>.fail) (fun _ _=>.fail) a
def cvsF(x:OW)(k:WR):Rf:=fun X e tm H=>csG (fun v=>k.f X (.c v e) tm H) (x.f e tm)
def sO(C:AV→Res)(n:Nat)(r:Option Nat):Res:=Option.rec (motive:=fun _=>Res) .fail (fun r=>fN r fun r=>C (.s n r)) r
def cb2(C:AV→Res)(o n:Nat)(_qq:Option TypeId)(cs:Tr AV 2)(nb:Nat):Res:=Bool.rec (motive:=fun _=>Res) .fail (ldN 2 cs n o fun l=>sO C n (strOf l)) (Nat.ble (Nat.add o n) nb)
def cb6(C:AV→Res)(o n:Nat)(_qq:Option TypeId)(cs:Tr AV 6)(nb:Nat):Res:=Bool.rec (motive:=fun _=>Res) .fail (ldN 6 cs n o fun l=>sO C n (strOf l)) (Nat.ble (Nat.add o n) nb)
def cbB(C:AV→Res)(o n:Nat)(B:Blk):Res:=Blk.rec (motive:=fun _=>Res) .fail (fun _ _ _ _ _ _=>.fail) (fun _=>.fail) (cb2 C o n) (cb6 C o n) (fun _=>.fail) B
def eqTx(l a:AV):Bool:=match l,a with
 |.cons (.r g j) .nil,.r g' j'=>and (and (Nat.beq g g') (Nat.beq j j')) (isTx g)
 |_,_=>false
def cbO(C:AV→Res)(l:AV)(B:Blk):Res:=Blk.rec (motive:=fun _=>Res) .fail (fun _ _ _ _ _ _=>.fail) (fun _=>.fail) (fun _ _ _=>.fail) (fun _ _ _=>.fail) (fun a=>Bool.rec (motive:=fun _=>Res) .fail (C a) (eqTx l a)) B
def cbG(H:HS)(C:AV→Res)(a:AV):Res:=AV.rec (motive:=fun _=>Res) .fail .fail (fun _ _ _ _=>.fail) (fun _=>.fail) (fun _ _=>.fail) (fun g t l _=>Bool.rec (motive:=fun _=>Res) .fail (cbO C l ((gw Blk 7 t).f H.h)) (Nat.beq g 8)) (fun _ _=>.fail) (fun b sz o _ n _=>Bool.rec (motive:=fun _=>Res) .fail (cbB C o n ((gw Blk 7 b).f H.h)) (Nat.beq sz 1)) (fun _ _=>.fail) (fun _=>.fail) (fun _ _=>.fail) a
def cvbF(x:OW)(k:WR):Rf:=fun X e tm H=>cbG H (fun v=>k.f X (.c v e) tm H) (x.f e tm)
def ifcF(t:TypeId)(x:OW)(k:WR):Rf:=fun X e tm H=>k.f X (.c (.k 3 t (x.f e tm)) e) tm H
def mkfF(f:FuncId)(l:List OW)(k:WR):Rf:=fun X e tm H=>k.f X (.c (.k 2 f (gL l e tm)) e) tm H
def feG(ag:Bool)(off n:Nat)(C:AV→Res)(a:AV):Res:=AV.rec (motive:=fun _=>Res) .fail .fail (fun _ _ _ _=>.fail) (fun _=>.fail) (fun _ _=>.fail) (fun zg _ l _=>Bool.rec (motive:=fun _=>Res) .fail (partF ag off n l C) (Nat.beq zg 0)) (fun _ _=>.fail) (fun _ _ _ _ _ _=>.fail) (fun _ _=>.fail) (fun _=>.fail) (fun _ _=>.fail) a
def fieF(ag:Bool)(off n:Nat)(x:OW)(k:WR):Rf:=fun X e tm H=>feG ag off n (fun v=>k.f X (.c v e) tm H) (x.f e tm)
def exG(i:Nat)(C:AV→Res)(a:AV):Res:=AV.rec (motive:=fun _=>Res) .fail .fail (fun _ _ _ _=>.fail) (fun _=>.fail) (fun _ _=>.fail) (fun zg _ l _=>Bool.rec (motive:=fun _=>Res) .fail (dropA i l fun l=>asK l fun x _=>C x) (Nat.beq zg 1)) (fun _ _=>.fail) (fun _ _ _ _ _ _=>.fail) (fun _ _=>.fail) (fun _=>.fail) (fun _ _=>.fail) a
def extF(i:Nat)(x:OW)(k:WR):Rf:=fun X e tm H=>exG i (fun v=>k.f X (.c v e) tm H) (x.f e tm)
def ieG(ag:Bool)(len sz:Nat)(C:AV→Res)(i:Nat)(a:AV):Res:=AV.rec (motive:=fun _=>Res) .fail .fail (fun _ _ _ _=>.fail) (fun _=>.fail) (fun _ _=>.fail) (fun zg _ l _=>Bool.rec (motive:=fun _=>Res) .fail (partF ag (Nat.mul i sz) sz l C) (and (Nat.beq zg 0) (Nat.blt i len))) (fun _ _=>.fail) (fun _ _ _ _ _ _=>.fail) (fun _ _=>.fail) (fun _=>.fail) (fun _ _=>.fail) a
def iaaF(ag:Bool)(len sz:Nat)(x y:OW)(k:WR):Rf:=fun X e tm H=>aN (fun i=>ieG ag len sz (fun v=>k.f X (.c v e) tm H) i (x.f e tm)) (y.f e tm)
def slO(C:AV→Res)(v:Option AV):Res:=Option.rec (motive:=fun _=>Res) .fail (fun v=>fSl v C) v
def slM(C:AV→Res)(mx:Option OW)(e:E)(tm:TM)(f:Option Nat→Option AV):Res:=Option.rec (motive:=fun _=>Res) (slO C (f none)) (fun m=>aN (fun m=>slO C (f (some m))) (m.f e tm)) mx
def slG(s0:Nat)(lo hi mx:Option OW)(e:E)(tm:TM)(C:AV→Res)(a:AV):Res:=AV.rec (motive:=fun _=>Res) .fail .fail (fun _ _ _ _=>.fail) (fun x=>gON lo 0 e tm fun l=>gON hi 0 e tm fun hh=>gON mx 0 e tm fun m=>Bool.rec (motive:=fun _=>Res) .fail (C (.v (.slice none 0 0))) (and (Nat.beq (Nat.add l (Nat.add hh m)) 0) (isNilS x))) (fun _ _=>.fail) (fun _ _ _ _=>.fail) (fun _ _=>.fail) (fun b sz o q n c=>Bool.rec (motive:=fun _=>Res) .fail (gON lo 0 e tm fun l=>gON hi n e tm fun hh=>slM C mx e tm (sliceV b sz o q n c l hh)) (Nat.beq sz s0)) (fun _ _=>.fail) (fun _=>.fail) (fun _ _=>.fail) a
def slsF(s0:Nat)(x:OW)(lo hi mx:Option OW)(k:WR):Rf:=fun X e tm H=>slG s0 lo hi mx e tm (fun v=>k.f X (.c v e) tm H) (x.f e tm)
def saG(len sz:Nat)(lo hi:Option OW)(e:E)(tm:TM)(C:AV→Res)(a:AV):Res:=AV.rec (motive:=fun _=>Res) .fail .fail (fun _ _ _ _=>.fail) (fun _=>.fail) (fun _ _=>.fail) (fun _ _ _ _=>.fail) (fun _ _=>.fail) (fun _ _ _ _ _ _=>.fail) (fun b o=>Bool.rec (motive:=fun _=>Res) .fail (gON lo 0 e tm fun l=>gON hi len e tm fun hh=>slO C (sliceV b sz (Nat.div o sz) (Nat.div o sz) len (some len) l hh none)) (and (Nat.beq (Nat.mod o sz) 0) (Nat.blt 0 sz))) (fun _=>.fail) (fun _ _=>.fail) a
def slaF(len sz:Nat)(x:OW)(lo hi:Option OW)(k:WR):Rf:=fun X e tm H=>saG len sz lo hi e tm (fun v=>k.f X (.c v e) tm H) (x.f e tm)
def stG(lo hi:Option OW)(e:E)(tm:TM)(C:AV→Res)(a:AV):Res:=AV.rec (motive:=fun _=>Res) .fail .fail (fun _ _ _ _=>.fail) (fun _=>.fail) (fun _ _=>.fail) (fun _ _ _ _=>.fail) (fun l n=>gON lo 0 e tm fun p=>gON hi l e tm fun z=>Bool.rec (motive:=fun _=>Res) .fail (fN (Nat.sub z p) fun m=>fN (Nat.mod (Nat.div n (Nat.pow 256 p)) (Nat.pow 256 m)) fun n=>C (.s m n)) (and (Nat.ble p z) (Nat.ble z l))) (fun _ _ _ _ _ _=>.fail) (fun _ _=>.fail) (fun _=>.fail) (fun _ _=>.fail) a
def strF(x:OW)(lo hi:Option OW)(k:WR):Rf:=fun X e tm H=>stG lo hi e tm (fun v=>k.f X (.c v e) tm H) (x.f e tm)
def taG(t:TypeId)(z:AV)(C:AV→Res)(a:AV):Res:=AV.rec (motive:=fun _=>Res) .fail .fail (fun _ _ _ _=>.fail) (fun x=>Bool.rec (motive:=fun _=>Res) .fail (C (.k 1 0 (.cons z (.cons (.b false) .nil)))) (isNilI x)) (fun _ _=>.fail) (fun zg u a _=>Bool.rec (motive:=fun _=>Res) .fail (Bool.rec (motive:=fun _=>Res) (C (.k 1 0 (.cons z (.cons (.b false) .nil)))) (C (.k 1 0 (.cons a (.cons (.b true) .nil)))) (Nat.beq u t)) (Nat.beq zg 3)) (fun _ _=>.fail) (fun _ _ _ _ _ _=>.fail) (fun _ _=>.fail) (fun _=>.fail) (fun _ _=>.fail) a
def taF(t:TypeId)(z:AV)(x:OW)(k:WR):Rf:=fun X e tm H=>taG t z (fun v=>k.f X (.c v e) tm H) (x.f e tm)
def t1G(t:TypeId)(C:AV→Res)(a:AV):Res:=AV.rec (motive:=fun _=>Res) .fail .fail (fun _ _ _ _=>.fail) (fun _=>.fail) (fun _ _=>.fail) (fun zg u a _=>Bool.rec (motive:=fun _=>Res) .fail (C a) (and (Nat.beq zg 3) (Nat.beq u t))) (fun _ _=>.fail) (fun _ _ _ _ _ _=>.fail) (fun _ _=>.fail) (fun _=>.fail) (fun _ _=>.fail) a
def ta1F(t:TypeId)(x:OW)(k:WR):Rf:=fun X e tm H=>t1G t (fun v=>k.f X (.c v e) tm H) (x.f e tm)
def bldF(z:AV)(ps:List ((Nat×Nat)×OW))(k:WR):Rf:=fun X e tm H=>bldN ps e tm z fun l=>k.f X (.c (.k 0 0 (l)) e) tm H
def lkO(ok:Bool)(z:AV)(C:AV→Res)(v:Option AV):Res:=Option.rec (motive:=fun _=>Res) (Bool.rec (motive:=fun _=>Res) (C z) (C (.k 1 0 (.cons z (.cons (.b false) .nil)))) ok) (fun v=>Bool.rec (motive:=fun _=>Res) (C v) (C (.k 1 0 (.cons v (.cons (.b true) .nil)))) ok) v
def lkS(ok:Bool)(z:AV)(H:HS)(C:AV→Res)(b:Nat)(q:AV):Res:=AV.rec (motive:=fun _=>Res) .fail .fail (fun _ _ _ _=>.fail) (fun _=>.fail) (fun _ _=>.fail) (fun _ _ _ _=>.fail) (fun l n=>iB (normS l n) (asM ((gw Blk 7 b).f H.h) fun es=>lkO ok z C (findM l n es)) .fail) (fun _ _ _ _ _ _=>.fail) (fun _ _=>.fail) (fun _=>.fail) (fun _ _=>.fail) q
def lkG(ok:Bool)(z:AV)(H:HS)(C:AV→Res)(a q:AV):Res:=AV.rec (motive:=fun _=>Res) .fail .fail (fun _ _ _ _=>.fail) (fun _=>.fail) (fun zg b=>Bool.rec (motive:=fun _=>Res) .fail (lkS ok z H C b q) (Nat.beq zg 0)) (fun _ _ _ _=>.fail) (fun _ _=>.fail) (fun _ _ _ _ _ _=>.fail) (fun _ _=>.fail) (fun _=>.fail) (fun _ _=>.fail) a
def lkpF(ok:Bool)(z:AV)(x y:OW)(k:WR):Rf:=fun X e tm H=>lkG ok z H (fun v=>k.f X (.c v e) tm H) (x.f e tm) (y.f e tm)
def muO(es:List (Nat×Nat×AV))(l n:Nat)(v:AV)(h:Tr Blk 7)(b:Nat)(C:Tr Blk 7→Res)(x:Option AV):Res:=Option.rec (motive:=fun _=>Res) ((pw Blk 7 b).f (.m (es++[(l,n,v)])) h C) (fun _=>.fail) x
def muS(v:AV)(h:Tr Blk 7)(b:Nat)(C:Tr Blk 7→Res)(q:AV):Res:=AV.rec (motive:=fun _=>Res) .fail .fail (fun _ _ _ _=>.fail) (fun _=>.fail) (fun _ _=>.fail) (fun _ _ _ _=>.fail) (fun l n=>iB (normS l n) (asM ((gw Blk 7 b).f h) fun es=>muO es l n v h b C (findM l n es)) .fail) (fun _ _ _ _ _ _=>.fail) (fun _ _=>.fail) (fun _=>.fail) (fun _ _=>.fail) q
def muG(v:AV)(h:Tr Blk 7)(C:Tr Blk 7→Res)(a q:AV):Res:=AV.rec (motive:=fun _=>Res) .fail .fail (fun _ _ _ _=>.fail) (fun _=>.fail) (fun zg b=>Bool.rec (motive:=fun _=>Res) .fail (muS v h b C q) (Nat.beq zg 0)) (fun _ _ _ _=>.fail) (fun _ _=>.fail) (fun _ _ _ _ _ _=>.fail) (fun _ _=>.fail) (fun _=>.fail) (fun _ _=>.fail) a
def mupF(x y z:OW)(k:WR):Rf:=fun X e tm H=>hH (fun h nx=>muG (z.f e tm) h (fun h=>k.f X (.c (.v undef) e) tm ⟨h,nx⟩) (x.f e tm) (y.f e tm)) H
def lnG(C:AV→Res)(a:AV):Res:=AV.rec (motive:=fun _=>Res) .fail .fail (fun _ _ _ _=>.fail) (fun x=>Bool.rec (motive:=fun _=>Res) .fail (C (.i .i64 (.ofNat 0))) (isNilS x)) (fun _ _=>.fail) (fun _ _ _ _=>.fail) (fun _ _=>.fail) (fun _ _ _ _ n _=>Bool.rec (motive:=fun _=>Res) .fail (C (.i .i64 (.ofNat n))) (Nat.ble n 9223372036854775807)) (fun _ _=>.fail) (fun _=>.fail) (fun _ _=>.fail) a
def lnLF(x:OW)(k:WR):Rf:=fun X e tm H=>lnG (fun v=>k.f X (.c v e) tm H) (x.f e tm)
def lenQ(a:AV):Option AV:=match a with
 |.r g _=>bif isTx g then itv 1 21 else none
 |.k 4 _ l=>match segs l with|some (a,b)=>itv a b|none=>none
 |_=>none
def lsG(C:AV→Res)(a:AV):Res:=AV.rec (motive:=fun _=>Res) .fail .fail (fun _ _ _ _=>.fail) (fun _=>.fail) (fun h j=>oG C (lenQ (.r h j))) (fun h t l _=>oG C (lenQ (.k h t l))) (fun l _=>Bool.rec (motive:=fun _=>Res) .fail (C (.i .i64 (.ofNat l))) (Nat.ble l 9223372036854775807)) (fun _ _ _ _ _ _=>.fail) (fun _ _=>.fail) (fun _=>.fail) (fun _ _=>.fail) a
def lnSF(x:OW)(k:WR):Rf:=fun X e tm H=>lsG (fun v=>k.f X (.c v e) tm H) (x.f e tm)
def mm3(lt:Bool)(C:AV→Res)(q:IntKind)(n m:Int)(r:AV):Res:=AV.rec (motive:=fun _=>Res) .fail .fail (fun _ _ _ _=>.fail) (fun _=>.fail) (fun _ _=>.fail) (fun _ _ _ _=>.fail) (fun _ _=>.fail) (fun _ _ _ _ _ _=>.fail) (fun _ _=>.fail) (fun r=>Bool.rec (motive:=fun _=>Res) (C (.i q m)) (C (.i q n)) (Bool.xor r lt)) (fun _ _=>.fail) r
def mm2(lt:Bool)(C:AV→Res)(q:IntKind)(n:Int)(q2:IntKind)(m:Int):Res:=Bool.rec (motive:=fun _=>Res) .fail (lssI q n m (mm3 lt C q n m)) (Nat.beq (kN q) (kN q2))
def mm1(lt:Bool)(C:AV→Res)(b:AV)(q:IntKind)(n:Int):Res:=AV.rec (motive:=fun _=>Res) .fail .fail (fun _ _ _ _=>.fail) (fun _=>.fail) (fun _ _=>.fail) (fun _ _ _ _=>.fail) (fun _ _=>.fail) (fun _ _ _ _ _ _=>.fail) (fun _ _=>.fail) (fun _=>.fail) (mm2 lt C q n) b
def mm0(lt:Bool)(C:AV→Res)(a b:AV):Res:=AV.rec (motive:=fun _=>Res) .fail .fail (fun _ _ _ _=>.fail) (fun _=>.fail) (fun _ _=>.fail) (fun _ _ _ _=>.fail) (fun _ _=>.fail) (fun _ _ _ _ _ _=>.fail) (fun _ _=>.fail) (fun _=>.fail) (mm1 lt C b) a
def mmF(lt:Bool)(x y:OW)(k:WR):Rf:=fun X e tm H=>mm0 lt (fun v=>k.f X (.c v e) tm H) (x.f e tm) (y.f e tm)
def allF(ty:TypeId)(z:AV)(k:WR):Rf:=fun X e tm H=>hH (fun h nx=>newB (some ty) z h nx fun h nx2=>k.f X (.c (.ptr nx 0) e) tm ⟨h,nx2⟩) H
def boxF(ty:TypeId)(x:OW)(k:WR):Rf:=fun X e tm H=>cellsC (x.f e tm) fun a=>hH (fun h nx=>newB (some ty) a h nx fun h nx2=>k.f X (.c (.ptr nx 0) e) tm ⟨h,nx2⟩) H
def bslF(ty:TypeId)(z:AV)(sz len:Nat)(ps:List ((Nat×Nat)×OW))(k:WR):Rf:=fun X e tm H=>bldN ps e tm z fun l=>hH (fun h nx=>newB (some ty) l h nx fun h nx2=>k.f X (.c (.sl nx sz 0 0 len (some len)) e) tm ⟨h,nx2⟩) H
def mksF(ty:TypeId)(z:AV)(sz:Nat)(x y:OW)(k:WR):Rf:=fun X e tm H=>aN (fun n=>aN (fun m=>Bool.rec (motive:=fun _=>Res) .fail (hH (fun h nx=>newB (some ty) (repA z n .nil) h nx fun h nx2=>k.f X (.c (.sl nx sz 0 0 n (some n)) e) tm ⟨h,nx2⟩) H) (and (Nat.beq n m) (Nat.ble n 4096))) (y.f e tm)) (x.f e tm)
def mkmF(k:WR):Rf:=fun X e tm H=>hH (fun h nx=>iB (Nat.blt nx 16384) ((pw Blk 7 nx).f (.m []) h fun h=>fN (Nat.succ nx) fun nx2=>k.f X (.c (.r 0 nx) e) tm ⟨h,nx2⟩) .fail) H
def sbG(C:Nat→Nat→Res)(a:AV):Res:=AV.rec (motive:=fun _=>Res) .fail .fail (fun _ _ _ _=>.fail) (fun _=>.fail) (fun _ _=>.fail) (fun _ _ _ _=>.fail) C (fun _ _ _ _ _ _=>.fail) (fun _ _=>.fail) (fun _=>.fail) (fun _ _=>.fail) a
def s2bF(ty:TypeId)(x:OW)(k:WR):Rf:=fun X e tm H=>sbG (fun l n=>hH (fun h nx=>newB (some ty) (bytesA n l) h nx fun h nx2=>k.f X (.c (.sl nx 1 0 0 l none) e) tm ⟨h,nx2⟩) H) (x.f e tm)
def slK(a:AV)(r:Res):Res:=AV.rec (motive:=fun _=>Res) .fail .fail (fun _ _ _ _=>.fail) (fun x=>Bool.rec (motive:=fun _=>Res) .fail r (isNilS x)) (fun _ _=>.fail) (fun _ _ _ _=>.fail) (fun _ _=>.fail) (fun _ _ _ _ _ _=>r) (fun _ _=>.fail) (fun _=>.fail) (fun _ _=>.fail) a
def ap2N(C:AV→Tr Blk 7→Nat→Res)(ty:TypeId)(l:AV)(m:Nat)(h:Tr Blk 7)(nx b sz o n:Nat)(qq:Option TypeId)(cs:Tr AV 2):Res:=Bool.rec (motive:=fun _=>Res) (ldN 2 cs (Nat.mul n sz) (Nat.mul o sz) fun old=>catA old l fun l=>(pw Blk 7 b).f .no h fun h=>tyQ ty qq fun qq=>newB qq l h nx fun h nx2=>fN (Nat.add n m) fun n=>C (.sl nx sz 0 0 n none) h nx2) (stN 2 l (Nat.mul n sz) cs fun cs nb=>fN nb fun nb=>(pw Blk 7 b).f .no h fun h=>tyQ ty qq fun qq=>(pw Blk 7 nx).f (.s qq cs nb) h fun h=>fN (Nat.succ nx) fun nx2=>fN (Nat.add n m) fun n=>C (.sl nx sz 0 0 n none) h nx2) (and (and (Nat.beq o 0) (Nat.blt nx 16384)) (Nat.ble (Nat.mul (Nat.add n m) sz) 16))
def ap2C(C:AV→Tr Blk 7→Nat→Res)(ty:TypeId)(l:AV)(m:Nat)(h:Tr Blk 7)(nx sz o n:Nat)(cs:Tr AV 2):Res:=ldN 2 cs (Nat.mul n sz) (Nat.mul o sz) fun old=>catA old l fun l=>newB (some ty) l h nx fun h nx2=>fN (Nat.add n m) fun n=>C (.sl nx sz 0 0 n none) h nx2
def ap2I(C:AV→Tr Blk 7→Nat→Res)(l:AV)(m:Nat)(h:Tr Blk 7)(nx b sz o q n:Nat)(c:Option Nat)(qq:Option TypeId)(cs:Tr AV 2)(nb:Nat):Res:=Bool.rec (motive:=fun _=>Res) .fail (stN 2 l (Nat.mul (Nat.add o n) sz) cs fun cs _=>(pw Blk 7 b).f (.s qq cs nb) h fun h=>fN (Nat.add n m) fun n=>C (.sl b sz o q n c) h nx) (Nat.ble (Nat.mul (Nat.add o (Nat.add n m)) sz) nb)
def ap2B(C:AV→Tr Blk 7→Nat→Res)(ty:TypeId)(l:AV)(m:Nat)(h:Tr Blk 7)(nx b sz o q n:Nat)(c:Option Nat)(qq:Option TypeId)(cs:Tr AV 2)(nb:Nat):Res:=Bool.rec (motive:=fun _=>Res) (Bool.rec (motive:=fun _=>Res) .fail (Option.rec (motive:=fun _=>Res) (ap2N C ty l m h nx b sz o n qq cs) (fun _=>ap2C C ty l m h nx sz o n cs) c) (Nat.ble (Nat.mul (Nat.add o n) sz) nb)) (ap2I C l m h nx b sz o q n c qq cs nb) (appIn o n m sz nb c)
def ap6N(C:AV→Tr Blk 7→Nat→Res)(ty:TypeId)(l:AV)(m:Nat)(h:Tr Blk 7)(nx b sz o n:Nat)(qq:Option TypeId)(cs:Tr AV 6):Res:=Bool.rec (motive:=fun _=>Res) (ldN 6 cs (Nat.mul n sz) (Nat.mul o sz) fun old=>catA old l fun l=>(pw Blk 7 b).f .no h fun h=>tyQ ty qq fun qq=>newB qq l h nx fun h nx2=>fN (Nat.add n m) fun n=>C (.sl nx sz 0 0 n none) h nx2) (stN 6 l (Nat.mul n sz) cs fun cs nb=>fN nb fun nb=>(pw Blk 7 b).f .no h fun h=>tyQ ty qq fun qq=>(pw Blk 7 nx).f (.c qq cs nb) h fun h=>fN (Nat.succ nx) fun nx2=>fN (Nat.add n m) fun n=>C (.sl nx sz 0 0 n none) h nx2) (and (and (Nat.beq o 0) (Nat.blt nx 16384)) (Nat.ble (Nat.mul (Nat.add n m) sz) 4096))
def ap6C(C:AV→Tr Blk 7→Nat→Res)(ty:TypeId)(l:AV)(m:Nat)(h:Tr Blk 7)(nx sz o n:Nat)(cs:Tr AV 6):Res:=ldN 6 cs (Nat.mul n sz) (Nat.mul o sz) fun old=>catA old l fun l=>newB (some ty) l h nx fun h nx2=>fN (Nat.add n m) fun n=>C (.sl nx sz 0 0 n none) h nx2
def ap6I(C:AV→Tr Blk 7→Nat→Res)(l:AV)(m:Nat)(h:Tr Blk 7)(nx b sz o q n:Nat)(c:Option Nat)(qq:Option TypeId)(cs:Tr AV 6)(nb:Nat):Res:=Bool.rec (motive:=fun _=>Res) .fail (stN 6 l (Nat.mul (Nat.add o n) sz) cs fun cs _=>(pw Blk 7 b).f (.c qq cs nb) h fun h=>fN (Nat.add n m) fun n=>C (.sl b sz o q n c) h nx) (Nat.ble (Nat.mul (Nat.add o (Nat.add n m)) sz) nb)
def ap6B(C:AV→Tr Blk 7→Nat→Res)(ty:TypeId)(l:AV)(m:Nat)(h:Tr Blk 7)(nx b sz o q n:Nat)(c:Option Nat)(qq:Option TypeId)(cs:Tr AV 6)(nb:Nat):Res:=Bool.rec (motive:=fun _=>Res) (Bool.rec (motive:=fun _=>Res) .fail (Option.rec (motive:=fun _=>Res) (ap6N C ty l m h nx b sz o n qq cs) (fun _=>ap6C C ty l m h nx sz o n cs) c) (Nat.ble (Nat.mul (Nat.add o n) sz) nb)) (ap6I C l m h nx b sz o q n c qq cs nb) (appIn o n m sz nb c)
def apS(C:AV→Tr Blk 7→Nat→Res)(ty:TypeId)(s0:Nat)(l:AV)(m:Nat)(h:Tr Blk 7)(nx b sz o q n:Nat)(c:Option Nat):Res:=Bool.rec (motive:=fun _=>Res) .fail (chkL l fun _=>Blk.rec (motive:=fun _=>Res) .fail (fun _ _ _ _ _ _=>.fail) (fun _=>.fail) (ap2B C ty l m h nx b sz o q n c) (ap6B C ty l m h nx b sz o q n c) (fun _=>.fail) ((gw Blk 7 b).f h)) (Nat.beq sz s0)
def apA(C:AV→Tr Blk 7→Nat→Res)(ty:TypeId)(s0:Nat)(l:AV)(m:Nat)(h:Tr Blk 7)(nx:Nat)(s:AV):Res:=AV.rec (motive:=fun _=>Res) .fail .fail (fun _ _ _ _=>.fail) (fun x=>Bool.rec (motive:=fun _=>Res) .fail (newB (some ty) l h nx fun h nx2=>C (.sl nx s0 0 0 m none) h nx2) (isNilS x)) (fun _ _=>.fail) (fun _ _ _ _=>.fail) (fun _ _=>.fail) (apS C ty s0 l m h nx) (fun _ _=>.fail) (fun _=>.fail) (fun _ _=>.fail) s
def apG(C:AV→Tr Blk 7→Nat→Res)(ty:TypeId)(s0:Nat)(s:AV)(h:Tr Blk 7)(nx:Nat)(l:AV)(m:Nat):Res:=Bool.rec (motive:=fun _=>Res) (apA C ty s0 l m h nx s) (slK s (C s h nx)) (Nat.beq m 0)
def txtA(a:AV):Option AV:=match a with|.r g j=>bif isTx g then some (.r g j) else none|_=>none
def apO(C:AV→Tr Blk 7→Nat→Res)(s0:Nat)(s:AV)(h:Tr Blk 7)(nx:Nat)(a:AV):Res:=AV.rec (motive:=fun _=>Res) .fail .fail (fun _ _ _ _=>.fail) (fun x=>Bool.rec (motive:=fun _=>Res) .fail (iB (and (Nat.beq s0 1) (Nat.blt nx 16384)) ((pw Blk 7 nx).f (.o a) h fun h=>fN (Nat.succ nx) fun nx2=>C (.k 8 nx (.cons a .nil)) h nx2) .fail) (isNilS x)) (fun _ _=>.fail) (fun _ _ _ _=>.fail) (fun _ _=>.fail) (fun _ _ _ _ _ _=>.fail) (fun _ _=>.fail) (fun _=>.fail) (fun _ _=>.fail) s
def appF(ty:TypeId)(s0:Nat)(x y:OW)(k:WR):Rf:=fun X e tm H=>hH (fun h nx=>Option.rec (motive:=fun _=>Res) (srcC s0 h (y.f e tm) none (apG (fun v h nx=>k.f X (.c v e) tm ⟨h,nx⟩) ty s0 (x.f e tm) h nx)) (fun a=>apO (fun v h nx=>k.f X (.c v e) tm ⟨h,nx⟩) s0 (x.f e tm) h nx a) (txtA (y.f e tm))) H
def apsF(ty:TypeId)(z:AV)(s0 m:Nat)(ps:List ((Nat×Nat)×OW))(x:OW)(k:WR):Rf:=fun X e tm H=>bldN ps e tm z fun l=>hH (fun h nx=>apG (fun v h nx=>k.f X (.c v e) tm ⟨h,nx⟩) ty s0 (x.f e tm) h nx l m) H
def cp2(C:AV→Tr Blk 7→Res)(l:AV)(m:Nat)(h:Tr Blk 7)(b sz o:Nat)(qq:Option TypeId)(cs:Tr AV 2)(n:Nat):Res:=Bool.rec (motive:=fun _=>Res) .fail (stN 2 l (Nat.mul o sz) cs fun cs _=>(pw Blk 7 b).f (.s qq cs n) h fun h=>C (.i .i64 (.ofNat m)) h) (Nat.ble (Nat.add (Nat.mul o sz) (Nat.mul m sz)) n)
def cp6(C:AV→Tr Blk 7→Res)(l:AV)(m:Nat)(h:Tr Blk 7)(b sz o:Nat)(qq:Option TypeId)(cs:Tr AV 6)(n:Nat):Res:=Bool.rec (motive:=fun _=>Res) .fail (stN 6 l (Nat.mul o sz) cs fun cs _=>(pw Blk 7 b).f (.c qq cs n) h fun h=>C (.i .i64 (.ofNat m)) h) (Nat.ble (Nat.add (Nat.mul o sz) (Nat.mul m sz)) n)
def cpB(C:AV→Tr Blk 7→Res)(h:Tr Blk 7)(b sz o:Nat)(l:AV)(m:Nat):Res:=chkL l fun _=>Blk.rec (motive:=fun _=>Res) .fail (fun _ _ _ _ _ _=>.fail) (fun _=>.fail) (cp2 C l m h b sz o) (cp6 C l m h b sz o) (fun _=>.fail) ((gw Blk 7 b).f h)
def cpG(C:AV→Tr Blk 7→Res)(s0:Nat)(h:Tr Blk 7)(t d:AV):Res:=AV.rec (motive:=fun _=>Res) .fail .fail (fun _ _ _ _=>.fail) (fun _=>.fail) (fun _ _=>.fail) (fun _ _ _ _=>.fail) (fun _ _=>.fail) (fun b sz o _ n _=>Bool.rec (motive:=fun _=>Res) .fail (srcC s0 h t (some n) (cpB C h b sz o)) (and (Nat.beq sz s0) (Nat.ble n 9223372036854775807))) (fun _ _=>.fail) (fun _=>.fail) (fun _ _=>.fail) d
def cpyF(s0:Nat)(x y:OW)(k:WR):Rf:=fun X e tm H=>hH (fun h nx=>cpG (fun v h=>k.f X (.c v e) tm ⟨h,nx⟩) s0 h (y.f e tm) (x.f e tm)) H
def usO(C:AV→Tr Blk 7→Res)(n:Nat)(h:Tr Blk 7)(b:Nat)(r:Option Nat):Res:=Option.rec (motive:=fun _=>Res) .fail (fun r=>fN r fun r=>(pw Blk 7 b).f .no h fun h=>C (.s n r) h) r
def us2(C:AV→Tr Blk 7→Res)(ty:TypeId)(n:Nat)(h:Tr Blk 7)(b:Nat)(qq:Option TypeId)(cs:Tr AV 2)(nb:Nat):Res:=Bool.rec (motive:=fun _=>Res) .fail (isQ ty qq fun _=>ldN 2 cs n 0 fun l=>usO C n h b (strOf l)) (and (Nat.blt 0 n) (Nat.ble n nb))
def us6(C:AV→Tr Blk 7→Res)(ty:TypeId)(n:Nat)(h:Tr Blk 7)(b:Nat)(qq:Option TypeId)(cs:Tr AV 6)(nb:Nat):Res:=Bool.rec (motive:=fun _=>Res) .fail (isQ ty qq fun _=>ldN 6 cs n 0 fun l=>usO C n h b (strOf l)) (and (Nat.blt 0 n) (Nat.ble n nb))
def usB(C:AV→Tr Blk 7→Res)(ty:TypeId)(n:Nat)(h:Tr Blk 7)(b:Nat)(B:Blk):Res:=Blk.rec (motive:=fun _=>Res) .fail (fun _ _ _ _ _ _=>.fail) (fun _=>.fail) (us2 C ty n h b) (us6 C ty n h b) (fun _=>.fail) B
def usG(C:AV→Tr Blk 7→Res)(ty:TypeId)(h:Tr Blk 7)(n:Nat)(p:AV):Res:=AV.rec (motive:=fun _=>Res) .fail .fail (fun _ _ _ _=>.fail) (fun _=>.fail) (fun _ _=>.fail) (fun _ _ _ _=>.fail) (fun _ _=>.fail) (fun _ _ _ _ _ _=>.fail) (fun b o=>Bool.rec (motive:=fun _=>Res) .fail (usB C ty n h b ((gw Blk 7 b).f h)) (Nat.beq o 0)) (fun _=>.fail) (fun _ _=>.fail) p
def usF(ty:TypeId)(x y:OW)(k:WR):Rf:=fun X e tm H=>aN (fun n=>hH (fun h nx=>usG (fun v h=>k.f X (.c v e) tm ⟨h,nx⟩) ty h n (x.f e tm)) H) (y.f e tm)
def rFV(C:AV→HS→Res)(r:Res):Res:=Res.rec (motive:=fun _=>Res) .fail (fun _ _ _=>.fail) (fun _ _=>.fail) C r
def calF(f:FuncId)(n:Nat)(l:MT)(k:WR):Rf:=fun X e tm H=>l.f e tm fun t=>rFV (fun v H=>k.f X (.c v e) tm H) (X.ih.c f n t H)
def cvK(ih:Ih)(H:HS)(C:AV→HS→Res)(a g:AV):Res:=AV.rec (motive:=fun _=>Res) .fail .fail (fun _ _ _ _=>.fail) (fun _=>.fail) (fun zg b=>Bool.rec (motive:=fun _=>Res) .fail (rFV C (ih.y b a H)) (Nat.beq zg 1)) (fun zg f cap _=>Bool.rec (motive:=fun _=>Res) .fail (catA a cap fun a=>tmL a fun t=>rFV C (ih.c f (lenA a) t H)) (Nat.beq zg 2)) (fun _ _=>.fail) (fun _ _ _ _ _ _=>.fail) (fun _ _=>.fail) (fun _=>.fail) (fun _ _=>.fail) g
def calV(g:OW)(l:List OW)(k:WR):Rf:=fun X e tm H=>cvK X.ih H (fun v H=>k.f X (.c v e) tm H) (gL l e tm) (g.f e tm)
abbrev TT:=Tr TypeInfo 5
def tI(ti:TT)(t:TypeId):TypeInfo:=(gw TypeInfo 5 t).f ti
def und(ti:TT)(t:TypeId):TypeDesc:=match (tI ti t).desc with|.named _ u=>(tI ti u).desc|d=>d
def aggT(ti:TT)(t:TypeId):Bool:=match und ti t with|.struct _|.array _ _=>true|_=>false
def zero1(ti:TT)(t:TypeId):Option AV:=match (tI ti t).zero with|some v=>some (ofV v)|none=>none
def zeroA(ti:TT)(t:TypeId):Option AV:=match zero1 ti t with|some v=>some (cellsA v)|none=>none
def nth{α:Type}:List α→Nat→Option α
 |[],_=>none
 |a::l,n=>bif Nat.beq n 0 then some a else nth l (Nat.sub n 1)
def fsOf(ti:TT)(t:TypeId)(f:Nat):Option (Nat×TypeId):=match und ti t with|.struct fs=>(match nth fs.toList f with|some f=>some (f.offset,f.type)|none=>none)|_=>none
def noW:WR:=⟨fun _ _ _ _=>.fail⟩
def oW{α:Type}(x:Option α)(f:α→WR):WR:=match x with|none=>noW|some a=>f a
def plc(ti:TT)(t:TypeId)(i:Nat):Option (Nat×Nat):=match und ti t with
 |.struct _=>(match fsOf ti t i with|some q=>some (q.1,(tI ti q.2).size)|none=>none)
 |.array _ el|.slice el=>some (Nat.mul i (tI ti el).size,(tI ti el).size)
 |_=>none
def prts(s:Sx)(t:TypeId):List (Nat×Operand)→Option (List ((Nat×Nat)×OW))
 |[]=>some []
 |p::l=>match plc s.ti t p.1,prts s t l with|some q,some l=>some ((q,opd s p.2)::l)|_,_=>none
def isStrT(ti:TT)(t:TypeId):Bool:=match und ti t with|.string=>true|_=>false
def intT(ti:TT)(t:TypeId):Option IntKind:=match und ti t with|.int k=>some k|_=>none
def isSlT(ti:TT)(t:TypeId):Bool:=match und ti t with|.slice _=>true|_=>false
def elT(ti:TT)(t:TypeId):Option TypeId:=match und ti t with|.slice e=>some e|_=>none
def ptT(ti:TT)(t:TypeId):Option TypeId:=match und ti t with|.pointer e=>some e|_=>none
def noInt(ti:TT)(l:List TypeId):Bool:=l.all fun t=>match intT ti t with|some _=>false|none=>true
def fast:BinOp→Bool|.add|.sub|.lss|.leq|.gtr|.geq|.eql|.neq|.and|.or|.xor|.mul|.quo|.rem|.shl|.shr=>true|_=>false
def isSh:BinOp→Bool|.shl|.shr=>true|_=>false
def tyK(ti:TT)(t:TypeId):Nat:=match und ti t with|.interface _=>1|.slice _=>2|.pointer _=>3|.bool=>4|_=>0
def isNot:UnOp→Bool|.not=>true|_=>false
def notPt(ti:TT)(t:TypeId):Bool:=match und ti t with|.pointer _=>false|_=>true
def mthd(ti:TT)(m:String)(t:TypeId):Option FuncId:=bif not (gT t) then none else match (tI ti t).methods.toList.find? (·.name==m) with|none=>none|some mt=>match mt.func with|some (f,pr)=>bif and (and (Nat.beq mt.path.size 0) (not pr)) (notPt ti t) then some f else none|none=>none
def inO(ih:Ih)(H:HS)(C:AV→HS→Res)(l:AV)(f:Option FuncId):Res:=Option.rec (motive:=fun _=>Res) .fail (fun f=>tmL l fun t=>rFV C (ih.c f (lenA l) t H)) f
def inK(ti:TT)(m:String)(ih:Ih)(H:HS)(C:AV→HS→Res)(a r:AV):Res:=AV.rec (motive:=fun _=>Res) .fail .fail (fun _ _ _ _=>.fail) (fun _=>.fail) (fun _ _=>.fail) (fun zg t x _=>Bool.rec (motive:=fun _=>Res) .fail (inO ih H C (.cons x a) (mthd ti m t)) (Nat.beq zg 3)) (fun _ _=>.fail) (fun _ _ _ _ _ _=>.fail) (fun _ _=>.fail) (fun _=>.fail) (fun _ _=>.fail) r
def invF(ti:TT)(m:String)(r:OW)(l:List OW)(k:WR):Rf:=fun X e tm H=>inK ti m X.ih H (fun v H=>k.f X (.c v e) tm H) (gL l e tm) (r.f e tm)
def isNo{α:Type}:Option α→Bool|none=>true|some _=>false
abbrev Dx:=Sx→WR→WR
def movC(x:Operand):Dx:=fun s k=>⟨movF (opd s x) k⟩
def pickC(c a b:Operand):Dx:=fun s k=>⟨pickF (opd s c) (opd s a) (opd s b) k⟩
def ldC(t:TypeId)(a:Operand):Dx:=fun s k=>bif aggT s.ti t then ⟨ldAF (tI s.ti t).size (opd s a) k⟩ else ⟨ld1F (opd s a) k⟩
def stC(t:TypeId)(a x:Operand):Dx:=fun s k=>bif aggT s.ti t then ⟨stAF (tI s.ti t).size (opd s a) (opd s x) k⟩ else ⟨st1F (opd s a) (opd s x) k⟩
def nilC'(x:Operand):Dx:=fun s k=>⟨nilF (opd s x) k⟩
def binC(P:Program)(op:BinOp)(t:TypeId)(x y:Operand):Dx:=fun s k=>match intT s.ti t with
 |some _=>bif fast op then (bif isSh op then ⟨binHF (selI op) (opd s x) (opd s y) k⟩ else ⟨binIF (selI op) (opd s x) (opd s y) k⟩) else ⟨binXF P (tyK s.ti t) op t x y (opd s x) (opd s y) k⟩
 |none=>bif isStrT s.ti t then ⟨binSF op (opd s x) (opd s y) k⟩ else ⟨binXF P (tyK s.ti t) op t x y (opd s x) (opd s y) k⟩
def unC(P:Program)(op:UnOp)(x:Operand):Dx:=fun s k=>bif isNot op then ⟨notF (opd s x) k⟩ else ⟨unF P op (opd s x) k⟩
def isU8(ti:TT)(t:TypeId):Bool:=match und ti t with|.int .u8=>true|_=>false
def byT(ti:TT)(t:TypeId):Bool:=match und ti t with|.slice e=>isU8 ti e|_=>false
def isIf(ti:TT)(t:TypeId):Bool:=match und ti t with|.interface _=>true|_=>false
def cvC(a d:TypeId)(x:Operand):Dx:=fun s k=>bif and (byT s.ti a) (isStrT s.ti d) then ⟨cvbF (opd s x) k⟩ else bif and (isStrT s.ti a) (byT s.ti d) then oW (elT s.ti d) fun el=>⟨s2bF el (opd s x) k⟩ else bif and (isStrT s.ti a) (isStrT s.ti d) then ⟨cvsF (opd s x) k⟩ else oW (intT s.ti d) fun q=>⟨cviF q (opd s x) k⟩
def ifcC(t:TypeId)(x:Operand):Dx:=fun s k=>bif isIf s.ti t then noW else ⟨ifcF t (opd s x) k⟩
def mkfC(f:Fn)(fst cap:Array Operand):Dx:=fun s k=>bif not (Nat.beq fst.size 0) then noW else match f with|.func f=>⟨mkfF f (cap.toList.map (opd s)) k⟩|_=>noW
def fldC(t:TypeId)(x:Operand)(f:Nat):Dx:=fun s k=>oW (fsOf s.ti t f) fun q=>⟨fldF q.1 (opd s x) k⟩
def fieC(t:TypeId)(x:Operand)(f:Nat):Dx:=fun s k=>oW (fsOf s.ti t f) fun q=>⟨fieF (aggT s.ti q.2) q.1 (tI s.ti q.2).size (opd s x) k⟩
def ixaC(t:TypeId)(x i:Operand):Dx:=fun s k=>match und s.ti t with
 |.array m el=>⟨ixaF m (tI s.ti el).size (opd s x) (opd s i) k⟩
 |.slice el=>⟨ixsF (tI s.ti el).size (opd s x) (opd s i) k⟩
 |_=>noW
def idxC(t:TypeId)(x i:Operand):Dx:=fun s k=>match und s.ti t with
 |.array m el=>⟨iaaF (aggT s.ti el) m (tI s.ti el).size (opd s x) (opd s i) k⟩
 |.string=>⟨idxF (opd s x) (opd s i) k⟩
 |_=>noW
def slcC(t:TypeId)(x:Operand)(lo hi mx:Option Operand):Dx:=fun s k=>match und s.ti t with
 |.string=>bif isNo mx then ⟨strF (opd s x) (lo.map (opd s)) (hi.map (opd s)) k⟩ else noW
 |.slice el=>bif or (isNo mx) (not (isNo hi)) then ⟨slsF (tI s.ti el).size (opd s x) (lo.map (opd s)) (hi.map (opd s)) (mx.map (opd s)) k⟩ else noW
 |.array m el=>bif isNo mx then ⟨slaF m (tI s.ti el).size (opd s x) (lo.map (opd s)) (hi.map (opd s)) k⟩ else noW
 |_=>noW
def extC(x:Operand)(i:Nat):Dx:=fun s k=>⟨extF i (opd s x) k⟩
def taC(x:Operand)(t:TypeId)(ok:Bool):Dx:=fun s k=>bif isIf s.ti t then noW else bif ok then oW (zero1 s.ti t) fun z=>⟨taF t z (opd s x) k⟩ else ⟨ta1F t (opd s x) k⟩
def bldC(t:TypeId)(ps:Array (Nat×Operand)):Dx:=fun s k=>bif aggT s.ti t then oW (zeroA s.ti t) fun z=>oW (prts s t ps.toList) fun ps=>⟨bldF z ps k⟩ else noW
def lkpC(t:TypeId)(x y:Operand)(ok:Bool):Dx:=fun s k=>match und s.ti t with|.map q el=>bif isStrT s.ti q then oW (zero1 s.ti el) fun z=>⟨lkpF ok z (opd s x) (opd s y) k⟩ else noW|_=>noW
def mupC(t:TypeId)(m y x:Operand):Dx:=fun s k=>match und s.ti t with|.map q _el=>bif isStrT s.ti q then ⟨mupF (opd s m) (opd s y) (opd s x) k⟩ else noW|_=>noW
def allC(t:TypeId):Dx:=fun s k=>oW (zeroA s.ti t) fun z=>⟨allF t z k⟩
def boxC(t:TypeId)(x:Operand):Dx:=fun s k=>⟨boxF t (opd s x) k⟩
def bslC(t:TypeId)(len:Nat)(ps:Array (Nat×Operand)):Dx:=fun s k=>oW (elT s.ti t) fun el=>oW (zeroA s.ti el) fun z=>oW (prts s t ps.toList) fun ps=>⟨bslF el (repA z len .nil) (tI s.ti el).size len ps k⟩
def mksC(t:TypeId)(l c:Operand):Dx:=fun s k=>oW (elT s.ti t) fun el=>oW (zeroA s.ti el) fun z=>⟨mksF el z (tI s.ti el).size (opd s l) (opd s c) k⟩
def mkmC(r:Option Operand):Dx:=fun _s k=>bif isNo r then ⟨mkmF k⟩ else noW
def bltC(b:Builtin)(args:List Operand)(ts:List TypeId):Dx:=fun s k=>
 match b,args with
 |.len,[x]=>match ts with|t::_=>(bif isSlT s.ti t then ⟨lnLF (opd s x) k⟩ else bif isStrT s.ti t then ⟨lnSF (opd s x) k⟩ else noW)|[]=>noW
 |.min,[x,y]=>⟨mmF false (opd s x) (opd s y) k⟩
 |.max,[x,y]=>⟨mmF true (opd s x) (opd s y) k⟩
 |.append,[x,y]=>match ts with|t::ts=>bif noInt s.ti ts then oW (elT s.ti t) fun el=>⟨appF el (tI s.ti el).size (opd s x) (opd s y) k⟩ else noW|[]=>noW
 |.copy,[x,y]=>match ts with|t::_=>oW (elT s.ti t) fun el=>⟨cpyF (tI s.ti el).size (opd s x) (opd s y) k⟩|[]=>noW
 |.unsafeString,[x,y]=>match ts with|t::_=>oW (ptT s.ti t) fun el=>bif Nat.beq (tI s.ti el).size 1 then ⟨usF el (opd s x) (opd s y) k⟩ else noW|[]=>noW
 |_,_=>noW
def calC(c:Call):Dx:=fun s k=>match c.callee with
 |.value (.func f)=>⟨calF f c.args.toList.length (mkMT (c.args.toList.map (opd s))) k⟩
 |.value g=>⟨calV (opd s g) (c.args.toList.map (opd s)) k⟩
 |.invoke r m=>⟨invF s.ti m (opd s r) (c.args.toList.map (opd s)) k⟩
 |.builtin b=>bltC b c.args.toList c.argTypes.toList s k
def noC:Dx:=fun _ _=>noW
structure WX where (f:Dx)
def mkC(P:Program)(op:Op):WX:=Op.rec (motive:=fun _=>WX) (fun x=>⟨movC x⟩) (fun x=>⟨movC x⟩) (fun c a b=>⟨pickC c a b⟩) (fun t=>⟨allC t⟩) (fun t x=>⟨boxC t x⟩) (fun t ps=>⟨bldC t ps⟩) (fun t len ps=>⟨bslC t len ps⟩) (fun _ _ _ _=>⟨noC⟩) (fun t a=>⟨ldC t a⟩) (fun t a x=>⟨stC t a x⟩) (fun _=>⟨noC⟩) (fun _=>⟨noC⟩) (fun x=>⟨nilC' x⟩) (fun op t x y _=>⟨binC P op t x y⟩) (fun op _ x=>⟨unC P op x⟩) (fun a d x=>⟨cvC a d x⟩) (fun _ _=>⟨noC⟩) (fun t x=>⟨ifcC t x⟩) (fun f a cap=>⟨mkfC f a cap⟩) (fun _ r=>⟨mkmC r⟩) (fun _ _=>⟨noC⟩) (fun t l c=>⟨mksC t l c⟩) (fun t x lo hi mx=>⟨slcC t x lo hi mx⟩) (fun t x f=>⟨fldC t x f⟩) (fun t x f=>⟨fieC t x f⟩) (fun t x i=>⟨ixaC t x i⟩) (fun t x i=>⟨idxC t x i⟩) (fun t x y ok=>⟨lkpC t x y ok⟩) (fun t m y x=>⟨mupC t m y x⟩) (fun _ _ _=>⟨noC⟩) (fun _ _ _ _=>⟨noC⟩) (fun _ _=>⟨noC⟩) (fun _ _=>⟨noC⟩) (fun _=>⟨noC⟩) (fun x _ t ok=>⟨taC x t ok⟩) (fun x i=>⟨extC x i⟩) (fun c=>⟨calC c⟩) (fun _=>⟨noC⟩) (fun _=>⟨noC⟩) (fun _=>⟨noC⟩) (fun _ _=>⟨noC⟩) (fun _ _ _=>⟨noC⟩) (fun _ _=>⟨noC⟩) op
def bOf(a:AV):Option Bool:=match a with|.b x=>some x|_=>none
def notB:Value→Bool
 |.bool _=>false
 |_=>true
def gdG(want:Bool)(Y N:Unit→Res)(a:AV):Res:=AV.rec (motive:=fun _=>Res) .fail .fail (fun _ _ _ _=>.fail) (fun v=>Bool.rec (motive:=fun _=>Res) .fail (N ()) (notB v)) (fun _ _=>.fail) (fun _ _ _ _=>.fail) (fun _ _=>.fail) (fun _ _ _ _ _ _=>.fail) (fun _ _=>.fail) (fun x=>Bool.rec (motive:=fun _=>Res) (Y ()) (N ()) (Bool.xor x want)) (fun _ _=>.fail) a
def grdF(x:OW)(want:Bool)(y n:WR):Rf:=fun X e tm H=>gdG want (fun _=>y.f X e tm H) (fun _=>n.f X e tm H) (x.f e tm)
def wrt(y:Nat):List Oper→Bool
 |[]=>false
 |o::l=>match o.dst with|some d=>or (Nat.beq d y) (wrt y l)|none=>wrt y l
def endW:WR:=⟨fun X _ tm H=>X.C tm H⟩
def Sx.add(s:Sx)(d:Option Tmp)(r:Ref):Sx:=match d with|none=>s|some d=>⟨s.ti,s.vs,s.all,(d,r)::s.ds,s.n,s.fa⟩
def Sx.one(s:Sx)(d:Option Tmp):Sx:=match d with|none=>⟨s.ti,s.vs,s.all,s.ds,Nat.succ s.n,s.fa⟩|some d=>⟨s.ti,s.vs,s.all,(d,.p s.n)::s.ds,Nat.succ s.n,s.fa⟩
def topW(vs:List Nat)(d:Option Tmp)(k:WR):WR:=match d with|none=>k|some t=>match pos t vs 0 with|some n=>⟨topF (tw n) k⟩|none=>k
def isLoc(vs:List Nat)(d:Option Tmp):Bool:=match d with|none=>false|some t=>match pos t vs 0 with|some _=>false|none=>true
def isFr(s:Sx)(d:Option Tmp):Bool:=match d with|none=>false|some t=>and (isLoc s.vs (some t)) (match find t s.ds with|none=>true|some _=>false)
def alias(s:Sx)(rest:List Oper)(x:Operand):Option Ref:=match x with
 |.tmp y=>match find y s.ds with|some r=>some r|none=>bif wrt y rest then none else some (.o (tmW s.vs y))
 |.const v=>some (.o ⟨fun _ _=>ofV v⟩)
 |.global g=>some (.o ⟨fun _ _=>.ptr g 0⟩)
 |.func f=>some (.o ⟨fun _ _=>.k 2 f .nil⟩)
inductive Sp|no|mov (x:Operand)|asg (x:Operand)|nil (x:Operand)|fld (t:TypeId) (x:Operand) (f:Nat)|ld (t:TypeId) (x:Operand)|st (t:TypeId) (x y:Operand)|bsl (t:TypeId) (n:Nat) (ps:List (Nat×Operand))|app (x y:Operand) (ts:List TypeId)
def spC(c:Call):Sp:=match c.callee with|.builtin .append=>(match c.args.toList with|[x,y]=>.app x y c.argTypes.toList|_=>.no)|_=>.no
def spOf(op:Op):Sp:=Op.rec (motive:=fun _=>Sp) (fun x=>.mov x) (fun x=>.asg x) (fun _ _ _=>.no) (fun _=>.no) (fun _ _=>.no) (fun _ _=>.no) (fun t n ps=>.bsl t n ps.toList) (fun _ _ _ _=>.no) (fun t x=>.ld t x) (fun t x y=>.st t x y) (fun _=>.no) (fun _=>.no) (fun x=>.nil x) (fun _ _ _ _ _=>.no) (fun _ _ _=>.no) (fun _ _ _=>.no) (fun _ _=>.no) (fun _ _=>.no) (fun _ _ _=>.no) (fun _ _=>.no) (fun _ _=>.no) (fun _ _ _=>.no) (fun _ _ _ _ _=>.no) (fun t x f=>.fld t x f) (fun _ _ _=>.no) (fun _ _ _=>.no) (fun _ _ _=>.no) (fun _ _ _ _=>.no) (fun _ _ _ _=>.no) (fun _ _ _=>.no) (fun _ _ _ _=>.no) (fun _ _=>.no) (fun _ _=>.no) (fun _=>.no) (fun _ _ _ _=>.no) (fun _ _=>.no) (fun c=>spC c) (fun _=>.no) (fun _=>.no) (fun _=>.no) (fun _ _=>.no) (fun _ _ _=>.no) (fun _ _=>.no) op
def onT(x:Operand)(d:Option Tmp):Bool:=match x,d with|.tmp t,some u=>Nat.beq t u|_,_=>false
def isT:Operand→Option Tmp|.tmp t=>some t|_=>none
def ung(o:Oper):Bool:=match o.guard with|none=>true|some _=>false
def apT(ti:TT)(el:TypeId)(ts:List TypeId):Bool:=match ts with|t::ts=>and (noInt ti ts) (match elT ti t with|some u=>Nat.beq u el|none=>false)|[]=>false
def fuse(s:Sx)(x:Operand)(d0:Option Tmp)(o1 o2:Oper)(k:WR):Option WR:=
 match spOf o1.op,spOf o2.op with
 |.fld t y f,.ld u z=>bif and (and (ung o1) (ung o2)) (and (and (onT y d0) (onT z o1.dst)) (isFr s o1.dst)) then
  match fsOf s.ti t f with
  |some q=>some (bif aggT s.ti u then ⟨lfAF q.1 (tI s.ti u).size (opd s x) k⟩ else ⟨lf1F q.1 (opd s x) k⟩)
  |none=>none
  else none
 |.fld t y f,.st u z v=>bif and (and (ung o1) (ung o2)) (and (and (onT y d0) (onT z o1.dst)) (and (isFr s o1.dst) (and (not (onT v o1.dst)) (not (onT v d0))))) then
  match fsOf s.ti t f with
  |some q=>some (bif aggT s.ti u then ⟨sfAF q.1 (tI s.ti u).size (opd s x) (opd s v) k⟩ else ⟨sf1F q.1 (opd s x) (opd s v) k⟩)
  |none=>none
  else none
 |_,_=>none
def fuseA(s:Sx)(o1 o2:Oper)(k:WR):Option WR:=
 match spOf o1.op,spOf o2.op with
 |.bsl t len ps,.app x y ts=>bif and (and (ung o2) s.fa) (and (onT y o1.dst) (and (isFr s o1.dst) (not (onT x o1.dst)))) then
  match elT s.ti t with
  |some el=>bif not (and (apT s.ti el ts) (Nat.ble (Nat.mul len (tI s.ti el).size) 4096)) then none else match zeroA s.ti el,prts s t ps with
   |some z,some ps=>some ⟨apsF el (repA z len .nil) (tI s.ti el).size len ps (opd s x) k⟩
   |_,_=>none
  |none=>none
  else none
 |_,_=>none
def oE(a _b:Option WR→WR):Option WR→WR:=fun x=>a x
def orW(x:Option WR)(y:WR):WR:=match x with|some w=>w|none=>y
abbrev Rg:=List Oper→Sx→WR
def goC(P:Program)(ih:Rg)(o:Oper)(rest:List Oper)(s:Sx):WR:=(mkC P o.op).f s (topW s.vs o.dst (ih rest (s.one o.dst)))
def gdC(P:Program)(ih:Rg)(o:Oper)(rest:List Oper)(s:Sx)(j:Nat)(want:Bool):WR:=match nth s.all j with
 |some oj=>match oj.dst with
  |some t=>⟨grdF (opd s (.tmp t)) want (goC P ih o rest s) ⟨undF (topW s.vs o.dst (ih rest (s.one o.dst)))⟩⟩
  |none=>noW
 |none=>noW
def plC(P:Program)(ih:Rg)(o:Oper)(rest:List Oper)(s:Sx):WR:=match spOf o.op with
 |.mov x=>bif isLoc s.vs o.dst then (match alias s rest x with|some r=>ih rest (s.add o.dst r)|none=>goC P ih o rest s) else goC P ih o rest s
 |.asg x=>(match o.dst with|some t=>(match pos t s.vs 0 with|some n=>bif wrt t rest then goC P ih o rest s else ⟨asgF (opd s x) (tw n) (ih rest (s.add o.dst (.o (tmW s.vs t))))⟩|none=>goC P ih o rest s)|none=>goC P ih o rest s)
 |.nil x=>(match rest with
  |o1::o2::rest2=>bif isFr s o.dst then orW (fuse s x o.dst o1 o2 (topW s.vs o2.dst (ih rest2 (s.one o2.dst)))) (goC P ih o rest s) else goC P ih o rest s
  |_=>goC P ih o rest s)
 |.fld _ x _=>(match rest with
  |o1::rest2=>orW (fuse s x (isT x) o o1 (topW s.vs o1.dst (ih rest2 (s.one o1.dst)))) (goC P ih o rest s)
  |_=>goC P ih o rest s)
 |.bsl _ _ _=>(match rest with
  |o1::rest2=>orW (fuseA s o o1 (topW s.vs o1.dst (ih rest2 (s.one o1.dst)))) (goC P ih o rest s)
  |_=>goC P ih o rest s)
 |_=>goC P ih o rest s
def stepC(P:Program)(ih:Rg)(o:Oper)(rest:List Oper)(s:Sx):WR:=match o.guard with|some g=>gdC P ih o rest s g.1 g.2|none=>plC P ih o rest s
def rgC(P:Program)(fin:Sx→WR)(n:Nat):Rg:=Nat.rec (motive:=fun _=>Rg) (fun _ _=>noW) (fun _ ih l s=>List.rec (motive:=fun _=>WR) (fin s) (fun o l _=>stepC P ih o l s) l) n
def rgW(P:Program)(ti:TT)(vs:List Nat)(ops:Array Oper)(fin:Sx→WR)(fa:Bool):WR:=rgC P fin 100 ops.toList ⟨ti,vs,ops.toList,[],0,fa⟩
def endS:Sx→WR:=fun _=>endW
inductive Pl|op (o:Oper)|re (o:Oper)
def eqI(n:Int):Int→Bool:=Int.rec (motive:=fun _=>Int→Bool) (fun a m=>Int.rec (motive:=fun _=>Bool) (fun b=>Nat.beq a b) (fun _=>false) m) (fun a m=>Int.rec (motive:=fun _=>Bool) (fun _=>false) (fun b=>Nat.beq a b) m) n
def eqO:Option Nat→Option Nat→Bool|none,none=>true|some a,some b=>Nat.beq a b|_,_=>false
def vCode:Value→Nat|.slice none 0 0=>1|.nilIface=>2|.pointer none=>3|.map none=>4|_=>0
def eqA(a:AV):AV→(Unit→Res)→Res:=AV.rec (motive:=fun _=>AV→(Unit→Res)→Res)
 (fun _ _=>.fail)
 (fun b C=>AV.rec (motive:=fun _=>Res) .fail (C ()) (fun _ _ _ _=>.fail) (fun _=>.fail) (fun _ _=>.fail) (fun _ _ _ _=>.fail) (fun _ _=>.fail) (fun _ _ _ _ _ _=>.fail) (fun _ _=>.fail) (fun _=>.fail) (fun _ _=>.fail) b)
 (fun _ _ ihx ihl b C=>asK b fun y m=>ihx y fun _=>ihl m C)
 (fun x b C=>AV.rec (motive:=fun _=>Res) .fail .fail (fun _ _ _ _=>.fail) (fun y=>Bool.rec (motive:=fun _=>Res) .fail (C ()) (and (Nat.blt 0 (vCode x)) (Nat.beq (vCode x) (vCode y)))) (fun _ _=>.fail) (fun _ _ _ _=>.fail) (fun _ _=>.fail) (fun _ _ _ _ _ _=>.fail) (fun _ _=>.fail) (fun _=>.fail) (fun _ _=>.fail) b)
 (fun g j b C=>AV.rec (motive:=fun _=>Res) .fail .fail (fun _ _ _ _=>.fail) (fun _=>.fail) (fun g2 j2=>Bool.rec (motive:=fun _=>Res) .fail (C ()) (and (Nat.beq g g2) (Nat.beq j j2))) (fun _ _ _ _=>.fail) (fun _ _=>.fail) (fun _ _ _ _ _ _=>.fail) (fun _ _=>.fail) (fun _=>.fail) (fun _ _=>.fail) b)
 (fun g t _ ih b C=>AV.rec (motive:=fun _=>Res) .fail .fail (fun _ _ _ _=>.fail) (fun _=>.fail) (fun _ _=>.fail) (fun g2 t2 l2 _=>Bool.rec (motive:=fun _=>Res) .fail (ih l2 C) (and (Nat.beq g g2) (Nat.beq t t2))) (fun _ _=>.fail) (fun _ _ _ _ _ _=>.fail) (fun _ _=>.fail) (fun _=>.fail) (fun _ _=>.fail) b)
 (fun l n b C=>AV.rec (motive:=fun _=>Res) .fail .fail (fun _ _ _ _=>.fail) (fun _=>.fail) (fun _ _=>.fail) (fun _ _ _ _=>.fail) (fun l2 n2=>Bool.rec (motive:=fun _=>Res) .fail (C ()) (and (Nat.beq l l2) (Nat.beq n n2))) (fun _ _ _ _ _ _=>.fail) (fun _ _=>.fail) (fun _=>.fail) (fun _ _=>.fail) b)
 (fun b e o k n c x C=>asL x fun b2 e2 o2 k2 n2 c2=>Bool.rec (motive:=fun _=>Res) .fail (C ()) (and (and (and (Nat.beq b b2) (Nat.beq e e2)) (and (Nat.beq o o2) (Nat.beq k k2))) (and (Nat.beq n n2) (eqO c c2))))
 (fun b o x C=>AV.rec (motive:=fun _=>Res) .fail .fail (fun _ _ _ _=>.fail) (fun _=>.fail) (fun _ _=>.fail) (fun _ _ _ _=>.fail) (fun _ _=>.fail) (fun _ _ _ _ _ _=>.fail) (fun b2 o2=>Bool.rec (motive:=fun _=>Res) .fail (C ()) (and (Nat.beq b b2) (Nat.beq o o2))) (fun _=>.fail) (fun _ _=>.fail) x)
 (fun p x C=>AV.rec (motive:=fun _=>Res) .fail .fail (fun _ _ _ _=>.fail) (fun _=>.fail) (fun _ _=>.fail) (fun _ _ _ _=>.fail) (fun _ _=>.fail) (fun _ _ _ _ _ _=>.fail) (fun _ _=>.fail) (fun q=>Bool.rec (motive:=fun _=>Res) (C ()) .fail (Bool.xor p q)) (fun _ _=>.fail) x)
 (fun k n x C=>AV.rec (motive:=fun _=>Res) .fail .fail (fun _ _ _ _=>.fail) (fun _=>.fail) (fun _ _=>.fail) (fun _ _ _ _=>.fail) (fun _ _=>.fail) (fun _ _ _ _ _ _=>.fail) (fun _ _=>.fail) (fun _=>.fail) (fun k2 n2=>Bool.rec (motive:=fun _=>Res) .fail (C ()) (and (Nat.beq (kN k) (kN k2)) (eqI n n2))) x) a
def re1F(x y:OW)(k:WR):Rf:=fun X e tm H=>ldG 0 H (fun v=>eqA v (y.f e tm) fun _=>k.f X e tm H) (x.f e tm)
def reAF(m:Nat)(x y:OW)(k:WR):Rf:=fun X e tm H=>lAG 0 m H (fun v=>eqA v (y.f e tm) fun _=>k.f X e tm H) (x.f e tm)
def reL(s:Sx)(t:TypeId)(x:Operand)(d:Tmp)(k:WR):WR:=bif aggT s.ti t then ⟨reAF (tI s.ti t).size (opd s x) (opd s (.tmp d)) k⟩ else ⟨re1F (opd s x) (opd s (.tmp d)) k⟩
def reC(o:Oper)(s:Sx)(k:WR):WR:=match o.guard with
 |none=>(match spOf o.op,o.dst with|.ld t x,some d=>reL s t x d k|_,_=>noW)
 |some g=>(match spOf o.op,o.dst,nth s.all g.1 with|.ld t x,some d,some oj=>(match oj.dst with|some u=>⟨grdF (opd s (.tmp u)) g.2 (reL s t x d k) k⟩|none=>noW)|_,_,_=>noW)
def stepD(P:Program)(p:Pl)(ih:Sx→WR)(s:Sx):WR:=match p with
 |.op o=>(match o.guard with|some g=>gdC P (fun _ s=>ih s) o [] s g.1 g.2|none=>goC P (fun _ s=>ih s) o [] s)
 |.re o=>reC o s (ih s)
def rgD(P:Program)(fin:Sx→WR)(l:List Pl):Sx→WR:=List.rec (motive:=fun _=>Sx→WR) fin (fun p _ ih s=>stepD P p ih s) l
def plan(ops:List Oper):List (Nat×Bool)→Option (List Pl)
 |[]=>some []
 |q::l=>match nth ops q.1,plan ops l with|some o,some l=>some ((bif q.2 then .re o else .op o)::l)|_,_=>none
def look(id:Nat):List (Nat×List (Nat×Bool))→Option (List (Nat×Bool))
 |[]=>none
 |q::l=>bif Nat.beq q.1 id then some q.2 else look id l
def rgX(P:Program)(ti:TT)(fd:Fd)(id:Nat)(ops:Array Oper)(draw:Bool)(fin:Sx→WR):WR:=match draw with
 |false=>rgW P ti fd.vs ops fin true
 |true=>match look id fd.dr with
  |none=>rgW P ti fd.vs ops fin false
  |some pl=>match plan ops.toList pl with|some l=>rgD P fin l ⟨ti,fd.vs,ops.toList,[],0,false⟩|none=>noW
abbrev Cf:=Ih→TM→HS→Res
structure WC where (f:Cf)
def seqF(a b:WC):Cf:=fun ih tm H=>Res.rec (motive:=fun _=>Res) .fail (fun x tm H=>.out x tm H) (fun tm H=>b.f ih tm H) (fun _ _=>.fail) (a.f ih tm H)
def rsqF(a:WR)(b:WC):Cf:=fun ih tm H=>a.f ⟨ih,fun tm H=>b.f ih tm H⟩ .emp tm H
def blkF(id:Nat)(a:WC):Cf:=fun ih tm H=>Res.rec (motive:=fun _=>Res) .fail (fun x tm H=>Xt.rec (motive:=fun _=>Res) (fun i=>Bool.rec (motive:=fun _=>Res) (.out (.ex i) tm H) (.nrm tm H) (Nat.beq i id)) (fun l=>.out (.gt l) tm H) (.out .rt tm H) x) (fun tm H=>.nrm tm H) (fun _ _=>.fail) (a.f ih tm H)
def lopN(a:WC)(ih:Ih)(n:Nat):TM→HS→Res:=Nat.rec (motive:=fun _=>TM→HS→Res) (fun _ _=>.fail) (fun _ lp tm H=>Res.rec (motive:=fun _=>Res) .fail (fun x tm H=>.out x tm H) lp (fun _ _=>.fail) (a.f ih tm H)) n
def lopF(a:WC):Cf:=fun ih tm H=>lopN a ih 1000000 tm H
def cdG(A B:Unit→Res)(v:AV):Res:=AV.rec (motive:=fun _=>Res) .fail .fail (fun _ _ _ _=>.fail) (fun _=>.fail) (fun _ _=>.fail) (fun _ _ _ _=>.fail) (fun _ _=>.fail) (fun _ _ _ _ _ _=>.fail) (fun _ _=>.fail) (fun c=>Bool.rec (motive:=fun _=>Res) (B ()) (A ()) c) (fun _ _=>.fail) v
def cndF(x:OW)(a b:WC):Cf:=fun ih tm H=>cdG (fun _=>a.f ih tm H) (fun _=>b.f ih tm H) (x.f .emp tm)
def rgnF(w:WR):Cf:=fun ih tm H=>w.f ⟨ih,fun tm H=>.nrm tm H⟩ .emp tm H
def lblF(c:Code)(comp:Code→WC)(l:Nat):WC:=match findLabel c l with|some r=>comp r|none=>⟨fun _ tm H=>.out (.gt l) tm H⟩
def scpN(lb:Nat→WC)(ih:Ih)(n:Nat):Res→Res:=Nat.rec (motive:=fun _=>Res→Res) (fun _=>.fail) (fun _ lp r=>Res.rec (motive:=fun _=>Res) .fail (fun x tm H=>Xt.rec (motive:=fun _=>Res) (fun i=>.out (.ex i) tm H) (fun l=>lp ((lb l).f ih tm H)) (.out .rt tm H) x) (fun tm H=>.nrm tm H) (fun _ _=>.fail) r) n
def asFn(a:AV)(C:Nat→AV→Res):Res:=AV.rec (motive:=fun _=>Res) .fail .fail (fun _ _ _ _=>.fail) (fun _=>.fail) (fun _ _=>.fail) (fun zg f l _=>Bool.rec (motive:=fun _=>Res) (.fail) (C f l) (Nat.beq zg 2)) (fun _ _=>.fail) (fun _ _ _ _ _ _=>.fail) (fun _ _=>.fail) (fun _=>.fail) (fun _ _=>.fail) a
def rfF(fd:Fd)(g:OW)(ps:List Tmp)(ac bd:Code):Cf:=fun ih tm H=>asFn (g.f .emp tm) fun f cap=>HS.rec (motive:=fun _=>Res) (fun h nx=>iB (Nat.blt nx 16384) ((pw Blk 7 nx).f (.lp fd tm ps ac bd none) h fun h=>fN (Nat.succ nx) fun nx'=>tmL (.cons (.r 1 nx) cap) fun t=>Res.rec (motive:=fun _=>Res) .fail (fun _ _ _=>.fail) (fun _ _=>.fail) (fun _ H=>HS.rec (motive:=fun _=>Res) (fun h nx''=>
 Blk.rec (motive:=fun _=>Res) .fail (fun _ _ _ _ _ pd=>(pw Blk 7 nx).f .no h fun h=>Option.rec (motive:=fun _=>Res) (.nrm tm ⟨h,nx''⟩) (fun x=>.out x tm ⟨h,nx''⟩) pd) (fun _=>.fail) (fun _ _ _=>.fail) (fun _ _ _=>.fail) (fun _=>.fail) ((gw Blk 7 nx).f h)) H) (ih.c f (lenA (.cons (.r 1 nx) cap)) t ⟨h,nx'⟩)) .fail) H
def isReg:Code→Option (Nat×Array Oper×Bool)|.region id ops d=>some (id,ops,d)|_=>none
def isCn0:Code→Option (Operand×Code×Code)|.cond c x y=>some (c,x,y)|_=>none
def isCnd:Code→Option (Operand×Code×Code×Option Code)|.cond c x y=>some (c,x,y,none)|.seq a r=>(match isCn0 a with|some (c,x,y)=>some (c,x,y,some r)|none=>none)|_=>none
def rcnF(w:WR):Cf:=fun ih tm H=>w.f ⟨ih,fun _ _=>.fail⟩ .emp tm H
def cn1F(x:OW)(a b:WC):Rf:=fun X e tm H=>cdG (fun _=>a.f X.ih tm H) (fun _=>b.f X.ih tm H) (x.f e tm)
def thnF(r:Res)(ih:Ih)(c:WC):Res:=Res.rec (motive:=fun _=>Res) .fail (fun x tm H=>.out x tm H) (fun tm H=>c.f ih tm H) (fun _ _=>.fail) r
def cn2F(x:OW)(a b r:WC):Rf:=fun X e tm H=>cdG (fun _=>thnF (a.f X.ih tm H) X.ih r) (fun _=>thnF (b.f X.ih tm H) X.ih r) (x.f e tm)
def comp(P:Program)(ti:TT)(fd:Fd):Nat→Code→WC
 |0,_=>⟨fun _ _ _=>.fail⟩
 |f+1,c=>match c with
  |.skip|.label _=>⟨fun _ tm H=>.nrm tm H⟩
  |.region id ops d=>⟨rgnF (rgX P ti fd id ops d endS)⟩
  |.seq a b=>(match isReg a with
   |some (id,ops,d)=>(match isCnd b with
    |some (c,x,y,none)=>⟨rcnF (rgX P ti fd id ops d fun s=>⟨cn1F (opd s c) (comp P ti fd f x) (comp P ti fd f y)⟩)⟩
    |some (c,x,y,some r)=>⟨rcnF (rgX P ti fd id ops d fun s=>⟨cn2F (opd s c) (comp P ti fd f x) (comp P ti fd f y) (comp P ti fd f r)⟩)⟩
    |none=>⟨rsqF (rgX P ti fd id ops d endS) (comp P ti fd f b)⟩)
   |none=>⟨seqF (comp P ti fd f a) (comp P ti fd f b)⟩)
  |.cond c a b=>⟨cndF (opd ⟨ti,fd.vs,[],[],0,false⟩ c) (comp P ti fd f a) (comp P ti fd f b)⟩
  |.block id a=>⟨blkF id (comp P ti fd f a)⟩
  |.loop a=>⟨lopF (comp P ti fd f a)⟩
  |.rangeFunc g ps ac bd=>⟨rfF fd (opd ⟨ti,fd.vs,[],[],0,false⟩ g) ps.toList ac bd⟩
  |.exit id=>⟨fun _ tm H=>.out (.ex id) tm H⟩
  |.scope a=>⟨fun ih tm H=>scpN (lblF a (comp P ti fd f)) ih 1000000 ((comp P ti fd f a).f ih tm H)⟩
  |.goto l=>⟨fun _ tm H=>.out (.gt l) tm H⟩
  |.ret=>⟨fun _ tm H=>.out .rt tm H⟩
  |.refuse _=>⟨fun _ _ _=>.fail⟩
inductive Rv|t (k:TW)|c (ag:Bool) (n:Nat) (k:TW)
def rvs(ti:TT)(vs:List Nat):List ResultVar→Option (List Rv)
 |[]=>some []
 |.tmp t::l=>match rvs ti vs l,pos t vs 0 with|some l,some n=>some (.t (tw n)::l)|_,_=>none
 |.cell a t::l=>match rvs ti vs l,pos a vs 0 with|some l,some n=>some (.c (aggT ti t) (tI ti t).size (tw n)::l)|_,_=>none
def resN(l:List Rv):TM→Tr Blk 7→(AV→Res)→Res:=List.rec (motive:=fun _=>TM→Tr Blk 7→(AV→Res)→Res) (fun _ _ C=>C .nil) (fun r _ ih tm h C=>Rv.rec (motive:=fun _=>Res) (fun k=>ih tm h fun l=>C (.cons (k.g tm) l)) (fun ag m k=>AV.rec (motive:=fun _=>Res) .fail .fail (fun _ _ _ _=>.fail) (fun _=>.fail) (fun _ _=>.fail) (fun _ _ _ _=>.fail) (fun _ _=>.fail) (fun _ _ _ _ _ _=>.fail) (fun b o=>Blk.rec (motive:=fun _=>Res) .fail (fun _ _ _ _ _ _=>.fail) (fun _=>.fail) (fun _qq cs n=>Bool.rec (motive:=fun _=>Res) (.fail) (ldN 2 cs m o fun l=>iB ag (ih tm h fun t=>C (.cons (.k 0 0 l) t)) (asK l fun x _=>ih tm h fun t=>C (.cons x t))) (Nat.ble (Nat.add o m) n)) (fun _qq cs n=>Bool.rec (motive:=fun _=>Res) (.fail) (ldN 6 cs m o fun l=>iB ag (ih tm h fun t=>C (.cons (.k 0 0 l) t)) (asK l fun x _=>ih tm h fun t=>C (.cons x t))) (Nat.ble (Nat.add o m) n)) (fun _=>.fail) ((gw Blk 7 b).f h)) (fun _=>.fail) (fun _ _=>.fail) (k.g tm)) r) l
structure RW where (f:TM→HS→Res)
structure Hk where (f:Ih→Nat→TM→HS→Res)
inductive FK|bad|ext (n:Nat)|go (n:Nat) (c:WC) (r:RW)|hk (g:Hk) (n:Nat) (c:WC) (r:RW)
def fnd(f:Nat):List (Nat×Hk)→Option Hk
 |[]=>none
 |(k,g)::l=>bif Nat.beq k f then some g else fnd f l
def extN(s:String):Nat:=if s= "internal/bytealg.abigen_runtime_cmpstring" then 1 else if s= "internal/bytealg.IndexByteString" then 2 else 0
def resC(one:Bool)(l:AV)(C:AV→Res):Res:=iB one (asK l fun x _=>C x) (AV.rec (motive:=fun _=>Res) .fail (C (.v (.tuple #[]))) (fun _ _ _ _=>C (.k 1 0 l)) (fun _=>.fail) (fun _ _=>.fail) (fun _ _ _ _=>.fail) (fun _ _=>.fail) (fun _ _ _ _ _ _=>.fail) (fun _ _=>.fail) (fun _=>.fail) (fun _ _=>.fail) l)
def mkR(one:Bool)(rs:List Rv):RW:=match one,rs with
 |true,[.t k]=>⟨fun tm H=>.fv (k.g tm) H⟩
 |false,[]=>⟨fun _ H=>.fv (.v (.tuple #[])) H⟩
 |_,_=>⟨fun tm H=>resN rs tm H.h fun l=>resC one l fun v=>.fv v H⟩
def prmOk(n:Nat)(vs:List Nat):Bool:=(List.range n).all fun i=>match nth vs i with|some j=>Nat.beq i j|none=>false
def endF(r:Res)(rw:RW):Res:=Res.rec (motive:=fun _=>Res) .fail (fun x tm H=>Xt.rec (motive:=fun _=>Res) (fun _=>.fail) (fun _=>.fail) (rw.f tm H) x) (fun tm H=>rw.f tm H) (fun _ _=>.fail) r
structure Vw where (P:Program) (ti:TT) (fn:Tr (Option Func) 5) (vs:Tr Fd 5) (hk:List (Nat×Hk))
def mkB(V:Vw)(_f:FuncId)(fn:Func)(vs:Fd):FK:=match fn.body with
 |none=>.ext (extN fn.name)
 |some c=>match rvs V.ti vs.vs fn.results.toList,prmOk (Nat.add fn.params.size fn.nfree) vs.vs with|some rs,true=>.go (Nat.add fn.params.size fn.nfree) (comp V.P V.ti vs 300 c) (mkR (Nat.beq fn.results.size 1) rs)|_,_=>.bad
def mkG(V:Vw)(f:FuncId):FK:=match Nat.blt f 1024,(gw (Option Func) 5 f).f V.fn with
 |true,some fn=>mkB V f fn ((gw Fd 5 f).f V.vs)
 |_,_=>.bad
def mkF(V:Vw)(f:FuncId):FK:=match mkG V f,fnd f V.hk with
 |.go n c r,some g=>.hk g n c r
 |x,_=>x
def orF(a:Res)(b:Unit→Res):Res:=Res.rec (motive:=fun _=>Res) (b ()) (fun x t H=>.out x t H) (fun t H=>.nrm t H) (fun v H=>.fv v H) a
def bldT{α:Type}(d:Nat)(l:List α):Nat→Tr α d→(Tr α d→Res)→Res:=List.rec (motive:=fun _=>Nat→Tr α d→(Tr α d→Res)→Res) (fun _ t C=>C t) (fun x _ ih n t C=>(pw α d n).f x t fun t=>ih (Nat.succ n) t C) l
def view(P:Program)(z:TypeInfo)(vs:List Fd)(hk:List (Nat×Hk))(C:Vw→Res):Res:=bldT 5 P.types.toList 0 (eTr z 5) fun ti=>bldT 5 (P.funcs.toList.map some) 0 (eTr none 5) fun fn=>bldT 5 vs 0 (eTr ⟨[],[]⟩ 5) fun vs=>C ⟨P,ti,fn,vs,hk⟩
def idxB(c:Nat):Nat→Nat→Nat→Int
 |0,_,_=>-1
 |l+1,n,i=>bif Nat.beq (Nat.mod n 256) c then .ofNat i else idxB c l (Nat.div n 256) (Nat.succ i)
def extV(n:Nat)(x y:AV):Option AV:=
 match n,x,y with
 |1,.s la a,.s lb b=>bif and (normS la a) (normS lb b) then some (.i .i64 (bif and (Nat.beq la lb) (Nat.beq a b) then 0 else bif lessS (la+1) la a lb b then -1 else 1)) else none
 |2,.s la a,.i .u8 (.ofNat c)=>bif Nat.blt la 9223372036854775808 then some (.i .i64 (idxB c la a 0)) else none
 |_,_,_=>none
def nlC(l:AV)(C:Unit→Res):Res:=AV.rec (motive:=fun _=>Res) .fail (C ()) (fun _ _ _ _=>.fail) (fun _=>.fail) (fun _ _=>.fail) (fun _ _ _ _=>.fail) (fun _ _=>.fail) (fun _ _ _ _ _ _=>.fail) (fun _ _=>.fail) (fun _=>.fail) (fun _ _=>.fail) l
def setP(vs:List Nat)(ps:List Tmp):AV→TM→(TM→Res)→Res:=List.rec (motive:=fun _=>AV→TM→(TM→Res)→Res) (fun l tm C=>nlC l fun _=>C tm) (fun t _ ih l tm C=>asK l fun x l=>oR (pos t vs 0) fun q=>(tw q).p x tm fun tm=>ih l tm C) ps
def rndA(a b:WC)(ih:Ih)(tm:TM)(H:HS):Res:=Res.rec (motive:=fun _=>Res) .fail (fun _ _ _=>.fail) (fun tm H=>b.f ih tm H) (fun _ _=>.fail) (a.f ih tm H)
def rndE(b:Nat)(fd:Fd)(tm0:TM)(ps:List Tmp)(ac bd:Code)(r:Res):Res:=Res.rec (motive:=fun _=>Res) .fail (fun x _ H=>hH (fun h nx=>(pw Blk 7 b).f (.lp fd tm0 ps ac bd (some x)) h fun h=>.fv (.b false) ⟨h,nx⟩) H) (fun _ H=>hH (fun h nx=>(pw Blk 7 b).f (.lp fd tm0 ps ac bd none) h fun h=>.fv (.b true) ⟨h,nx⟩) H) (fun _ _=>.fail) r
def rndB(V:Vw)(ih:Ih)(b:Nat)(a:AV)(h:Tr Blk 7)(nx:Nat)(fd:Fd)(tm0:TM)(ps:List Tmp)(ac bd:Code)(pd:Option Xt):Res:=Option.rec (motive:=fun _=>Res) (setP fd.vs ps a tm0 fun tm=>(pw Blk 7 b).f .no h fun h=>rndE b fd tm0 ps ac bd (rndA (comp V.P V.ti fd 300 ac) (comp V.P V.ti fd 300 bd) ih tm ⟨h,nx⟩)) (fun _=>.fail) pd
def rndF(V:Vw)(ih:Ih)(b:Nat)(a:AV)(H:HS):Res:=hH (fun h nx=>Blk.rec (motive:=fun _=>Res) .fail (rndB V ih b a h nx) (fun _=>.fail) (fun _ _ _=>.fail) (fun _ _ _=>.fail) (fun _=>.fail) ((gw Blk 7 b).f h)) H
def evF(V:Vw)(n:Nat):Ih:=Nat.rec (motive:=fun _=>Ih) ⟨fun _ _ _ _=>.fail,fun _ _ _=>.fail⟩
 (fun _ ih=>⟨fun f n tm H=>FK.rec (motive:=fun _=>Res) .fail (fun x=>iB (Nat.beq n 2) (oR (extV x tm.a0 tm.a1) fun v=>fV v fun v=>.fv v H) .fail) (fun np c r=>iB (Nat.ble n np) (endF (c.f ih tm H) r) .fail) (fun g np c r=>orF (g.f ih n tm H) fun _=>iB (Nat.ble n np) (endF (c.f ih tm H) r) .fail) (mkF V f),fun b a H=>rndF V ih b a H⟩) n
end
end Go.Proofs.YtglihimiidiacaaGreatDoor.Ev8
namespace Go.Proofs.YtglihimiidiacaaGreatDoor.Ev8
open Go
set_option maxRecDepth 1000000
noncomputable section
def vss:List Ev8.Fd:=[⟨[],[]⟩,⟨[],[]⟩,⟨[],[]⟩,⟨[0,1,2,6,7,8,9,10,11,12,13],[]⟩,⟨[0,1,2,6,7,8,9,10,11,12,13,14],[(15,[(0,false),(1,false),(2,false),(3,false),(4,false),(5,false),(6,false),(7,false),(8,false),(9,false),(10,false),(8,true),(11,false),(12,false),(13,false),(14,false),(15,false),(16,false),(17,false),(18,false),(19,false),(20,false),(21,false),(22,false),(23,false),(24,false),(25,false)])]⟩,⟨[0,2],[]⟩,⟨[0,1,4],[]⟩,⟨[0,2,3,4,5,6],[]⟩,⟨[0,2],[]⟩,⟨[0,1,4,5,6,7,8,9,10,12,13,14,15,17,18,19],[]⟩,⟨[0,1,2,6],[]⟩,⟨[0,1,4,5,6,7,9],[]⟩,⟨[0,2,3,4,5,6],[]⟩,⟨[0,1,2,3,4,5],[]⟩,⟨[0,2,3,4,5,6],[(2,[(0,false),(1,false),(3,false),(2,false),(0,true),(4,false),(0,true),(5,false),(6,false),(7,false)])]⟩,⟨[0,1,2,3,4,5,6,7,8,9],[]⟩,⟨[0,1,4,5,6,7,8],[]⟩,⟨[0,1,2,6,7,8],[]⟩,⟨[0,2],[]⟩,⟨[0,2,3],[]⟩,⟨[0,1,4,5,6,7,8,9,10,11,12,13,14,15,16],[]⟩,⟨[0,1,2,3,4,10,11,12,13,14,15,16,17,18],[]⟩,⟨[0,2,3,4,5,6],[]⟩,⟨[0,2],[]⟩,⟨[0,2,3],[]⟩,⟨[0,1,2,3,4,6,8,9,12,13,14,27,28,29],[(11,[(0,false),(1,false),(2,false),(4,false),(5,false),(7,false),(8,false),(3,false),(5,true),(8,true),(6,false),(8,true),(9,false),(10,false)]),(16,[(0,false),(1,false),(2,false),(3,false),(1,true),(4,false),(5,false),(6,false),(7,false)]),(18,[(0,false),(1,false),(3,false),(4,false),(5,false),(2,false),(5,true),(6,false),(7,false)])]⟩,⟨[0,1,2,3,4,5,6],[]⟩,⟨[0,2,3,4,5,6,7],[]⟩,⟨[0,1,4,5,6],[]⟩,⟨[0,1,4,5,6,7,8,9,10,11],[(2,[(0,false),(1,false),(2,false),(1,true),(3,false)]),(14,[(0,false),(1,false),(2,false),(1,true),(3,false)]),(16,[(0,false),(1,false),(2,false),(1,true),(3,false)]),(17,[(0,false),(1,false),(3,false),(4,false),(2,false),(4,true),(5,false),(6,false),(7,false)])]⟩,⟨[0,1,2,6,7,8,29,30],[]⟩,⟨[0,1,4],[]⟩,⟨[0,1,4,5,6,7,29],[]⟩,⟨[0,2],[]⟩,⟨[0,2],[]⟩,⟨[0,2],[]⟩,⟨[0,2],[]⟩,⟨[0,2],[]⟩,⟨[0,1,4],[]⟩,⟨[0,2,3,4,5],[]⟩,⟨[0,2,3,4,5,6,7,8],[(14,[(0,false),(1,false),(2,false),(3,false),(0,true),(4,false),(5,false)])]⟩,⟨[0,1,2,3,5,7,9,11,12,13,26,27,28,41,42,43],[]⟩,⟨[0,1,4,5],[]⟩,⟨[0,1,4,5,6,7],[]⟩,⟨[0,1,2,3,5,7,8,9],[(5,[(0,false),(1,false),(2,false),(3,false),(5,false),(6,false),(4,false),(6,true),(7,false),(8,false),(9,false),(10,false)])]⟩,⟨[0,1,3],[]⟩,⟨[0,2],[]⟩,⟨[0,2,3,5,6,7,8],[]⟩,⟨[0,1,3,4,5],[(3,[(0,false),(1,false),(2,false),(3,false),(4,false),(5,false),(6,false),(9,false),(10,false),(11,false),(12,false),(7,false),(1,true),(3,true),(12,true),(8,false),(13,false),(14,false)])]⟩,⟨[0,1,4,6,7,8,26,27,28,33,34,35],[(10,[(0,false),(1,false),(2,false),(3,false),(4,false),(5,false),(6,false),(7,false),(8,false),(9,false),(10,false),(11,false),(12,false),(1,true),(13,false),(14,false),(15,false)])]⟩,⟨[0,1,2],[]⟩,⟨[0,1,3,5,7,20,21,22,41,42,43],[]⟩,⟨[0,2,3],[]⟩,⟨[0,2,3,4,5,6,7,8,9],[(15,[(0,false),(1,false),(2,false),(3,false),(4,false),(5,false),(6,false),(0,true),(7,false),(8,false)])]⟩,⟨[0,1,2,3,4,5,6,7,8,9,10,11,20,21,22],[]⟩,⟨[0,2,3,4,5,6,7],[]⟩,⟨[0,2,3,4,5,6,7,9,11,13,14,15,21,22,23],[]⟩,⟨[0,1,4,5,6,8,10,11,12,14,15,16,17,23,24,25,43,44,45,51,52,53],[]⟩,⟨[0,2,3,5,7,8,9,10,15,16,17],[]⟩,⟨[0,1,4,5,7,8,10,11,12,13,23,24,25],[(9,[(0,false),(1,false),(2,false),(3,false),(4,false),(5,false),(6,false),(2,true),(7,false),(8,false),(9,false),(10,false)])]⟩,⟨[0,1,4,5],[(1,[(0,false),(1,false),(2,false),(3,false),(4,false),(5,false),(6,false),(7,false),(8,false),(11,false),(12,false),(13,false),(14,false),(15,false),(16,false),(9,false),(10,false),(15,true),(17,false),(18,false),(19,false),(20,false),(21,false),(22,false),(23,false),(24,false),(25,false)])]⟩,⟨[0,2],[]⟩,⟨[0,1,4],[]⟩,⟨[0,1,2,3,4,6,16,17,18],[(1,[(0,false),(1,false),(2,false),(3,false),(0,true),(4,false),(5,false),(6,false)])]⟩,⟨[0,2],[]⟩,⟨[0,2],[]⟩,⟨[0,2,3],[]⟩,⟨[0,1,4,6,7,8,9],[]⟩,⟨[0,1,4,5,6],[]⟩,⟨[0,2],[]⟩,⟨[0],[]⟩,⟨[0,1,4,5],[]⟩,⟨[0,1,2,4,6,7,9,10,11],[(7,[(0,false),(1,false),(2,false),(3,false),(5,false),(6,false),(4,false),(2,true),(6,true),(7,false),(2,true),(8,false)])]⟩,⟨[],[]⟩,⟨[0,1,2,6,7,8,9,10,12,31,34,41,43,44,45],[]⟩,⟨[],[]⟩,⟨[],[]⟩,⟨[],[]⟩,⟨[0,1,2,3,6,8,9,10,11,12,14,36,39,46,48,49,50],[]⟩,⟨[0,1,4],[]⟩,⟨[0,1,2,3,4],[]⟩,⟨[0,1,4],[]⟩,⟨[0,2,3],[]⟩,⟨[0,1,3,4,5,6,7,18,19,20],[]⟩,⟨[0,1,2,4,5,7,29,39],[]⟩,⟨[0,1,4],[]⟩,⟨[0,1,4],[]⟩,⟨[0,1,2,3,4],[]⟩,⟨[0,2],[]⟩,⟨[0,2],[]⟩,⟨[0,1,4,5,7,8],[]⟩,⟨[0,2,3,19,20],[]⟩,⟨[0,2,3,5,6,7,8],[]⟩,⟨[0,1,4,5,7,8,9,10],[]⟩,⟨[0,1],[]⟩,⟨[0,1],[]⟩,⟨[0,1],[]⟩,⟨[0,1,3,4,6,26,27,28],[]⟩,⟨[0,2,3,4,5,7,8,17],[]⟩,⟨[0,2],[]⟩,⟨[0,2,3,4,5,6,7],[]⟩,⟨[0,2,3,4,5,6,7,8,9,10,19,20],[]⟩,⟨[0,1,4,5,6,7,8,9,10,11,12,21,22],[]⟩,⟨[0,1,4,5,6,7,8,9,10],[]⟩,⟨[0,1,2,6],[]⟩,⟨[0,2,3,4,5,6,10,11,12],[]⟩,⟨[0,1,4,5,6,7,8,9,10,18,19,52,53,54],[]⟩,⟨[0,1,2,3],[]⟩,⟨[0,1,2,3,6,7,9,10,12,13,14,29,30],[]⟩,⟨[0,1,4,5,6,7,11,12,13],[(7,[(0,false),(1,false),(2,false),(3,false),(4,false),(5,false),(6,false),(7,false),(8,false),(3,true),(5,true),(9,false),(10,false),(11,false)])]⟩,⟨[0,2,3,20],[]⟩,⟨[0,2,3,4,5,6,33],[(20,[(0,false),(1,false),(2,false),(3,false),(4,false),(5,false),(6,false),(7,false),(8,false),(12,false),(13,false),(9,false),(3,true),(10,false),(11,false),(14,false),(15,false)])]⟩,⟨[0,1,4],[]⟩,⟨[0,1],[]⟩,⟨[0,1,2],[]⟩,⟨[0,2],[]⟩,⟨[0,2],[]⟩,⟨[0,1,4],[]⟩,⟨[0,2],[]⟩,⟨[0,1,3,4],[]⟩,⟨[0,1,4,5,6,7],[]⟩,⟨[0,1,4,5,6,7,8],[]⟩,⟨[0,1,2],[]⟩,⟨[0,1,2,6,7,9,39,40,41],[]⟩,⟨[0,2],[]⟩,⟨[],[]⟩,⟨[],[]⟩,⟨[0,1,2,3,4,10,11,12,13,14,15,16,17,18,19,20],[]⟩,⟨[0,2],[]⟩,⟨[0,1,4],[]⟩,⟨[0,1,3,4,5,6,8,26,27,28,43,44,45],[]⟩,⟨[0,1,2,4,6,7,8,9,11,12,13,35,36,37,71,72,73],[]⟩,⟨[0,1,2],[]⟩,⟨[0,1,4,5,6,9,15,30,36],[]⟩,⟨[0,1],[]⟩,⟨[0,1,2,6],[]⟩,⟨[0,1,4],[]⟩,⟨[0,1,2,3,4,10,11,12,13,14,15,16,17,18,19,20],[]⟩,⟨[0,1,2,3,8,9,10,11,12,13,14,15,16,17,18],[]⟩,⟨[0,2],[]⟩,⟨[0,2],[]⟩,⟨[0,2],[]⟩,⟨[0,1,4,6],[]⟩,⟨[0,2,4,8,9,10],[]⟩,⟨[0,1],[]⟩,⟨[0,1,3,5,12,34,35,36],[]⟩,⟨[0,2,3,4,5,6,7,12],[]⟩,⟨[0,2],[]⟩,⟨[0,1,2,6,7,8,9,10],[]⟩,⟨[0,1,2,6,7,8,9,10],[]⟩,⟨[0,1,4,5,6,7,8,9],[]⟩,⟨[0,1,2,4,6,15,16,17],[]⟩,⟨[0,2],[]⟩,⟨[0,1,2,6],[]⟩,⟨[0,1,4,5,7,32,38,51,52,53],[(0,[(0,false),(1,false),(2,false),(3,false),(4,false),(5,false),(6,false),(7,false),(8,false),(9,false),(10,false),(11,false),(12,false),(13,false),(14,false),(15,false),(10,true),(13,true),(16,false)])]⟩,⟨[0,1,2,4],[(3,[(0,false),(1,false),(2,false),(3,false),(4,false),(5,false),(6,false),(7,false),(8,false),(9,false),(10,false),(11,false),(12,false),(2,true),(5,true),(7,true),(10,true),(13,false),(14,false),(15,false),(16,false),(17,false),(18,false),(19,false),(20,false),(21,false),(22,false)])]⟩,⟨[0,2,3,4,5,9,10,11],[]⟩,⟨[0,1,4],[]⟩,⟨[0,1],[]⟩,⟨[0,1,3,4,5,25,26,47,48],[(1,[(0,false),(2,false),(3,false),(1,false),(3,true),(4,false)]),(6,[(0,false),(1,false),(2,false),(3,false),(4,false),(5,false),(6,false),(7,false),(3,true),(8,false),(9,false),(10,false),(11,false),(12,false),(13,false)]),(12,[(0,false),(1,false),(3,false),(4,false),(5,false),(6,false),(7,false),(8,false),(9,false),(2,false),(6,true),(10,false),(6,true),(11,false),(12,false),(13,false),(14,false),(15,false),(16,false),(17,false)])]⟩,⟨[0,2],[]⟩,⟨[0,1,4],[]⟩,⟨[0,1,3],[]⟩,⟨[0,2,3],[]⟩,⟨[0,1],[]⟩,⟨[0,1,8,9],[]⟩,⟨[0,1,2,6],[]⟩,⟨[0,2,3],[]⟩,⟨[0,1,4],[(0,[(0,false),(1,false),(2,false),(3,false),(4,false),(5,false),(3,true),(6,false),(7,false),(8,false),(9,false)])]⟩,⟨[0,1,4,6,23,24,25],[(0,[(0,false),(1,false),(2,false),(3,false),(4,false),(5,false),(3,true),(6,false),(7,false),(8,false),(9,false)])]⟩,⟨[0,1,4,5,32],[(0,[(0,false),(1,false),(2,false),(3,false),(4,false),(8,false),(9,false),(10,false),(11,false),(12,false),(5,false),(3,true),(11,true),(6,false),(7,false),(13,false),(3,true),(7,true),(11,true),(14,false),(15,false),(16,false),(17,false),(18,false),(11,true),(15,true),(19,false)])]⟩,⟨[0,1,3],[]⟩,⟨[0,2,3,4],[]⟩,⟨[0,1,4],[]⟩,⟨[0,1,2,3],[]⟩,⟨[0,2,3,4,5],[]⟩,⟨[0,1,4,5,6,7],[]⟩,⟨[0,2,3,4,5,6,7],[]⟩,⟨[0,2,3,4,5,6,7],[]⟩,⟨[0,1,2,3,8,9],[]⟩,⟨[0,1,2,3,8,9,10,11,12],[]⟩,⟨[0,1,2,3,8,9,10,11,12],[]⟩,⟨[0,1,2,3,8,9,10,11,12,13,14,55],[]⟩,⟨[0,1,2,3,8,9],[]⟩,⟨[0,1,2,3,8,9,10,11,12],[]⟩,⟨[0,1,2,3,4,10,11,12],[]⟩,⟨[0,1,2,3,4,10,11,12,13],[]⟩,⟨[0,2],[]⟩,⟨[],[]⟩,⟨[0,1,2,6,7,8,9,10],[]⟩,⟨[0,1,4],[]⟩,⟨[0,1,4,5,6,7,8,10,16,23,30,41,42,49,64],[]⟩,⟨[0,1],[]⟩,⟨[0,1,2,3,4,6,11,12,13],[]⟩,⟨[0,1,2,4],[(1,[(0,false),(1,false),(2,false),(3,false),(4,false),(5,false),(6,false),(7,false),(8,false),(9,false),(10,false),(11,false),(12,false),(13,false),(2,true),(5,true),(8,true),(11,true),(14,false),(15,false),(16,false)])]⟩,⟨[0,1,4,5,6,7,8,9,10,11,12,13],[]⟩,⟨[0,1,2,3,8,9],[]⟩,⟨[0,1,2,3,8,9,10,11,12],[]⟩,⟨[0,1,2,3,8,9,10,11,12],[]⟩,⟨[0,1,2,3,8,9,10,11,12,13,14,55],[]⟩,⟨[0,1,2,3,8,9],[]⟩,⟨[0,1,2,3,8,9,10,11,12],[]⟩,⟨[0,1,2,3,4,10,11,12],[]⟩,⟨[0,1,2,3,4,10,11,12,13],[]⟩,⟨[0,1,2,6,7],[]⟩,⟨[0,1,2,6,7,8,9,10],[]⟩,⟨[0,1,2,6,7,8,9,10],[]⟩,⟨[0,1,2,6,7,8,9,10,11,12,49],[]⟩,⟨[0,1,2,6,7],[]⟩,⟨[0,1,2,6,7,8,9,10],[]⟩,⟨[0,1,4],[]⟩,⟨[0,1,2,3,8,9,10],[]⟩,⟨[0,1,2,3,8,9,10,11],[]⟩,⟨[0,1,2,6,7,8,9,10,11],[]⟩,⟨[0,1,2,4],[]⟩,⟨[0,1,2,3,4,11],[]⟩,⟨[0,2],[]⟩,⟨[0,2],[]⟩,⟨[0,2,3,4,5,6,7,8,17,18],[]⟩,⟨[0,1,2,4],[]⟩,⟨[0,1,4],[]⟩,⟨[0,1,3],[]⟩,⟨[0,2],[]⟩,⟨[0,1,4,5,7,8],[]⟩,⟨[0,1,4,5,6,7],[]⟩,⟨[0,2,3,4,5],[]⟩,⟨[0,2,3,4,5],[]⟩,⟨[0,1,2,3,4,10,11],[]⟩,⟨[0,2],[]⟩,⟨[0,2],[]⟩,⟨[0,1,2,3,8],[]⟩,⟨[0,1,2,3,4,5,12],[]⟩,⟨[0,1,2,4,5,7,23,24,25,33,34],[]⟩,⟨[0,1,2,3,5,10,11,12],[(5,[(0,false),(1,false),(2,false),(3,false),(4,false),(5,false),(6,false),(7,false),(8,false),(9,false),(0,true),(10,false)])]⟩,⟨[0,1,2,5,7,8,9],[]⟩,⟨[0,1,4],[]⟩,⟨[0,1,2,3],[]⟩,⟨[0,1,4],[]⟩,⟨[],[]⟩,⟨[0,2],[]⟩,⟨[0,1,4,5,6,7,8,9,10],[]⟩,⟨[0,1,2,3,4,10,11],[]⟩,⟨[0,1,2,3,8],[]⟩,⟨[0,1,2,3,4,5,12],[]⟩,⟨[0,1,2,3,8,9],[]⟩,⟨[0,1,2,6],[]⟩,⟨[0,1,2,3,4,10],[]⟩,⟨[0,2],[]⟩,⟨[0,2],[]⟩,⟨[0,2,3],[]⟩,⟨[0,2,3,5,14,15,16],[]⟩,⟨[0,2,3,4,5,6,7,8,21],[]⟩,⟨[0,2,3,4,5,6],[]⟩,⟨[0,2,3,17,18],[]⟩,⟨[0,1,4],[]⟩,⟨[0,1,2,6,7,8],[]⟩,⟨[0,1,2,3,4,10,11],[]⟩,⟨[0,1,2,3,8,9,10,12,45,46,47],[(7,[(0,false),(1,false),(2,false),(3,false),(5,false),(6,false),(8,false),(4,false),(2,true),(6,true),(7,false),(2,true),(9,false),(10,false)])]⟩,⟨[0,1,2,3,8,9,12],[]⟩,⟨[0,1,2],[]⟩,⟨[0,1,2],[]⟩,⟨[0,1,2],[]⟩,⟨[],[]⟩,⟨[0,2,3,4,5,6,7,8],[]⟩,⟨[0,1,2,3,4,10,11],[]⟩,⟨[0,1,2,3,8,9],[]⟩,⟨[0,2,3,4,5],[]⟩,⟨[0,2,3,4,5,6,7,8,9,10,11,20,21],[]⟩,⟨[0,2,3,4],[]⟩,⟨[0,1,4,5,6,7,8],[]⟩,⟨[0,1,4,5,6,7,8,9,10],[]⟩,⟨[0,2,3,4,5,6,7,8],[]⟩,⟨[0,2,3,4,5,6,7,8,9],[]⟩,⟨[0,2,3,4,5,6,7,8],[]⟩,⟨[0,1,4],[]⟩,⟨[0,1,2,6,7,8,9,10,11,16],[]⟩,⟨[0,1,2,3,4,10,11],[]⟩,⟨[0,1,3,4],[]⟩,⟨[0,1,4],[]⟩,⟨[0,1,4,5,6],[]⟩,⟨[0,1,3],[]⟩,⟨[0,1,3],[]⟩,⟨[0,1,3],[]⟩,⟨[0,2],[]⟩,⟨[0,1,4,5,6,7,8],[(10,[(0,false),(1,false),(2,false),(3,false),(4,false),(5,false),(6,false),(9,false),(10,false),(11,false),(12,false),(13,false),(7,false),(8,false),(12,true),(14,false),(15,false),(16,false),(17,false),(18,false),(19,false),(20,false),(21,false)])]⟩,⟨[0,1,4,5,6,7,8,9,10,11],[]⟩,⟨[0,1,4],[]⟩,⟨[0,1,2,6,7,8,9,10,11,12,13,15,16,17,85,99,100,101],[]⟩,⟨[0,1,4],[(1,[(0,false),(1,false),(3,false),(2,false),(3,true),(4,false),(5,false),(6,false)])]⟩,⟨[0,1,4],[(1,[(0,false),(1,false),(3,false),(2,false),(3,true),(4,false),(5,false),(6,false)])]⟩,⟨[0,1,2,6],[]⟩,⟨[0,1,2,6],[]⟩,⟨[0,1,4],[]⟩,⟨[0,1,2,3],[]⟩,⟨[0,1,4,5,6,7],[]⟩,⟨[0,2],[]⟩,⟨[0,2,3,4,5],[]⟩,⟨[0,2],[]⟩,⟨[0,1,4,5,7,8],[]⟩,⟨[],[]⟩,⟨[],[]⟩,⟨[],[]⟩,⟨[],[]⟩,⟨[],[]⟩,⟨[],[]⟩,⟨[],[]⟩,⟨[],[]⟩,⟨[],[]⟩,⟨[],[]⟩,⟨[],[]⟩,⟨[],[]⟩,⟨[],[]⟩,⟨[],[]⟩,⟨[],[]⟩,⟨[],[]⟩,⟨[],[]⟩,⟨[],[]⟩,⟨[0,1,2],[]⟩,⟨[0,2],[]⟩,⟨[],[]⟩,⟨[],[]⟩,⟨[],[]⟩,⟨[],[]⟩,⟨[],[]⟩,⟨[],[]⟩,⟨[],[]⟩,⟨[],[]⟩,⟨[],[]⟩,⟨[],[]⟩,⟨[],[]⟩,⟨[],[]⟩,⟨[],[]⟩,⟨[],[]⟩,⟨[0,1,2,3,4,9,10],[]⟩,⟨[0,2,3,5,6,7,8],[]⟩,⟨[0,1,2,3,5,11,12,13],[]⟩,⟨[0,1,2],[]⟩,⟨[0,1,2],[]⟩,⟨[0,2],[]⟩,⟨[0,1,2],[]⟩,⟨[],[]⟩,⟨[],[]⟩,⟨[0,2],[]⟩,⟨[],[]⟩,⟨[],[]⟩,⟨[],[]⟩,⟨[],[]⟩,⟨[],[]⟩,⟨[],[]⟩,⟨[],[]⟩,⟨[],[]⟩,⟨[],[]⟩,⟨[],[]⟩,⟨[],[]⟩,⟨[],[]⟩,⟨[],[]⟩,⟨[],[]⟩,⟨[],[]⟩,⟨[],[]⟩,⟨[],[]⟩,⟨[],[]⟩,⟨[],[]⟩,⟨[],[]⟩,⟨[],[]⟩,⟨[],[]⟩,⟨[],[]⟩,⟨[],[]⟩,⟨[],[]⟩,⟨[],[]⟩,⟨[],[]⟩,⟨[],[]⟩,⟨[],[]⟩,⟨[],[]⟩,⟨[],[]⟩]
def rowsL:AV:=(.cons (.i .i64 (.ofNat 1)) (.cons (.i .i64 (.ofNat 0)) (.cons (.i .i64 (.ofNat 0)) (.cons (.i .i64 (.ofNat 0)) (.cons (.i .i64 (.ofNat 0)) (.cons (.i .i64 (.ofNat 1)) (.cons (.i .i64 (.ofNat 0)) (.cons (.i .i64 (.ofNat 2)) (.cons (.i .i64 (.ofNat 0)) (.cons (.i .i64 (.ofNat 65535)) (.cons (.i .i64 (.ofNat 0)) (.cons (.i .i64 (.ofNat 0)) (.cons (.i .i64 (.ofNat 1)) (.cons (.i .i64 (.ofNat 0)) (.cons (.i .i64 (.ofNat 2)) (.cons (.i .i64 (.ofNat 0)) (.cons (.i .i64 (.ofNat 1000)) (.cons (.i .i64 (.ofNat 1)) (.cons (.i .i64 (.ofNat 1)) (.cons (.i .i64 (.ofNat 1)) (.cons (.i .i64 (.ofNat 0)) (.cons (.i .i64 (.ofNat 0)) (.cons (.i .i64 (.ofNat 0)) (.cons (.i .i64 (.ofNat 0)) (.cons (.i .i64 (.ofNat 2)) (.cons (.i .i64 (.ofNat 0)) (.cons (.i .i64 (.negSucc 0)) (.cons (.i .i64 (.ofNat 0)) (.cons (.i .i64 (.ofNat 2)) (.cons (.i .i64 (.ofNat 0)) (.cons (.i .i64 (.ofNat 1000)) (.cons (.i .i64 (.ofNat 1)) (.cons (.i .i64 (.ofNat 1)) (.cons (.i .i64 (.ofNat 0)) (.cons (.i .i64 (.negSucc 0)) (.cons (.i .i64 (.ofNat 2)) (.cons (.i .i64 (.ofNat 0)) (.cons (.i .i64 (.ofNat 1000)) (.cons (.i .i64 (.ofNat 2)) (.cons (.i .i64 (.ofNat 1)) (.cons (.i .i64 (.negSucc 0)) (.cons (.i .i64 (.ofNat 0)) (.cons (.i .i64 (.ofNat 2)) (.cons (.i .i64 (.ofNat 0)) (.cons (.i .i64 (.ofNat 1000)) (.cons (.i .i64 (.ofNat 0)) (.cons (.i .i64 (.ofNat 1)) (.cons (.i .i64 (.ofNat 0)) (.cons (.i .i64 (.negSucc 0)) (.cons (.i .i64 (.ofNat 2)) (.cons (.i .i64 (.ofNat 1)) (.cons (.i .i64 (.ofNat 1000)) (.cons (.i .i64 (.ofNat 0)) (.cons (.i .i64 (.ofNat 0)) (.cons (.i .i64 (.ofNat 0)) (.cons (.i .i64 (.ofNat 1)) (.cons (.i .i64 (.ofNat 0)) (.cons (.i .i64 (.ofNat 0)) (.cons (.i .i64 (.ofNat 0)) (.cons (.i .i64 (.ofNat 1)) (.cons (.i .i64 (.ofNat 0)) (.cons (.i .i64 (.ofNat 0)) (.cons (.i .i64 (.ofNat 0)) (.cons (.i .i64 (.ofNat 0)) (.cons (.i .i64 (.ofNat 0)) (.cons (.i .i64 (.ofNat 0)) (.cons (.i .i64 (.ofNat 2)) (.cons (.i .i64 (.ofNat 0)) (.cons (.i .i64 (.negSucc 0)) (.cons (.i .i64 (.ofNat 0)) (.cons (.i .i64 (.ofNat 0)) (.cons (.i .i64 (.ofNat 0)) (.cons (.i .i64 (.ofNat 0)) (.cons (.i .i64 (.ofNat 2)) (.cons (.i .i64 (.ofNat 0)) (.cons (.i .i64 (.negSucc 0)) (.cons (.i .i64 (.ofNat 0)) (.cons (.i .i64 (.ofNat 0)) (.cons (.i .i64 (.ofNat 0)) (.cons (.i .i64 (.ofNat 0)) (.cons (.i .i64 (.ofNat 2)) (.cons (.i .i64 (.ofNat 0)) (.cons (.i .i64 (.negSucc 0)) (.cons (.i .i64 (.ofNat 0)) (.cons (.i .i64 (.ofNat 0)) (.cons (.i .i64 (.ofNat 0)) (.cons (.i .i64 (.ofNat 0)) (.cons (.i .i64 (.ofNat 2)) (.cons (.i .i64 (.ofNat 0)) (.cons (.i .i64 (.negSucc 0)) (.cons (.i .i64 (.ofNat 0)) (.cons (.i .i64 (.ofNat 0)) (.cons (.i .i64 (.ofNat 0)) (.cons (.i .i64 (.ofNat 0)) (.cons (.i .i64 (.ofNat 2)) (.cons (.i .i64 (.ofNat 0)) (.cons (.i .i64 (.negSucc 0)) (.cons (.i .i64 (.ofNat 0)) (.cons (.i .i64 (.ofNat 0)) (.cons (.i .i64 (.ofNat 0)) (.cons (.i .i64 (.ofNat 0)) (.cons (.i .i64 (.ofNat 2)) (.cons (.i .i64 (.ofNat 0)) (.cons (.i .i64 (.negSucc 0)) (.cons (.i .i64 (.ofNat 0)) (.cons (.i .i64 (.ofNat 2)) (.cons (.i .i64 (.ofNat 0)) (.cons (.i .i64 (.ofNat 65535)) (.cons (.i .i64 (.ofNat 0)) (.cons (.i .i64 (.ofNat 1)) (.cons (.i .i64 (.ofNat 1)) (.cons (.i .i64 (.negSucc 0)) (.cons (.i .i64 (.ofNat 2)) (.cons (.i .i64 (.ofNat 0)) (.cons (.i .i64 (.ofNat 255)) (.cons (.i .i64 (.ofNat 1)) (.cons (.i .i64 (.ofNat 0)) (.cons (.i .i64 (.negSucc 0)) (.cons (.i .i64 (.ofNat 1)) (.cons (.i .i64 (.ofNat 3)) (.cons (.i .i64 (.ofNat 0)) (.cons (.i .i64 (.ofNat 0)) (.cons (.i .i64 (.ofNat 1)) (.cons (.i .i64 (.ofNat 0)) (.cons (.i .i64 (.ofNat 0)) (.cons (.i .i64 (.ofNat 0)) (.cons (.i .i64 (.ofNat 2)) (.cons (.i .i64 (.ofNat 0)) (.cons (.i .i64 (.ofNat 65535)) (.cons (.i .i64 (.ofNat 0)) (.cons (.i .i64 (.ofNat 0)) (.cons (.i .i64 (.ofNat 0)) (.cons (.i .i64 (.ofNat 0)) (.cons (.i .i64 (.ofNat 0)) (.cons (.i .i64 (.ofNat 0)) (.cons (.i .i64 (.ofNat 0)) (.cons (.i .i64 (.ofNat 1)) (.cons (.i .i64 (.ofNat 0)) (.cons (.i .i64 (.ofNat 0)) (.cons (.i .i64 (.ofNat 0)) (.cons (.i .i64 (.ofNat 0)) (.cons (.i .i64 (.ofNat 0)) (.cons (.i .i64 (.ofNat 0)) (.cons (.i .i64 (.ofNat 0)) (.cons (.i .i64 (.ofNat 0)) (.cons (.i .i64 (.ofNat 0)) (.cons (.i .i64 (.ofNat 0)) .nil)))))))))))))))))))))))))))))))))))))))))))))))))))))))))))))))))))))))))))))))))))))))))))))))))))))))))))))))))))))))))))))))))))))))))))))))))))
def powL:AV:=(.cons (.i .u64 (.ofNat 1)) (.cons (.i .u64 (.ofNat 10)) (.cons (.i .u64 (.ofNat 100)) (.cons (.i .u64 (.ofNat 1000)) (.cons (.i .u64 (.ofNat 10000)) (.cons (.i .u64 (.ofNat 100000)) (.cons (.i .u64 (.ofNat 1000000)) (.cons (.i .u64 (.ofNat 10000000)) (.cons (.i .u64 (.ofNat 100000000)) (.cons (.i .u64 (.ofNat 1000000000)) (.cons (.i .u64 (.ofNat 10000000000)) (.cons (.i .u64 (.ofNat 100000000000)) (.cons (.i .u64 (.ofNat 1000000000000)) (.cons (.i .u64 (.ofNat 10000000000000)) (.cons (.i .u64 (.ofNat 100000000000000)) (.cons (.i .u64 (.ofNat 1000000000000000)) (.cons (.i .u64 (.ofNat 10000000000000000)) (.cons (.i .u64 (.ofNat 100000000000000000)) (.cons (.i .u64 (.ofNat 1000000000000000000)) (.cons (.i .u64 (.ofNat 10000000000000000000)) .nil))))))))))))))))))))
def eH:Tr Blk 7:=eTr .no 7
def start(C:Tr Blk 7→Res):Res:=(fun h=>newB none rowsL h 24 fun h _=>newB none powL h 0 fun h _=>C h) eH
def runC(V:Vw)(fd:Fd)(fn:Func)(c:Code)(m:Nat)(t:TM)(H:HS):Res:=match rvs V.ti fd.vs fn.results.toList with
 |some rs=>endF ((comp V.P V.ti fd 300 c).f (evF V m) t H) (mkR (Nat.beq fn.results.size 1) rs)
 |none=>.fail
def rest2(fn:Func):Code:=match fn.body with|some (.seq _ (.seq _ r))=>r|_=>.refuse ""
def eqZ:Int→Int→Bool
 |.ofNat a,.ofNat b=>Nat.beq a b
 |.negSucc a,.negSucc b=>Nat.beq a b
 |_,_=>false
def zqI:AV→AV→Bool
 |.i .i64 a,.i .i64 b=>eqZ a b
 |.i .u64 a,.i .u64 b=>eqZ a b
 |_,_=>false
def eqL:AV→Nat→(Nat→AV)→Bool
 |.nil,_,_=>true
 |.cons x l,i,g=>and (zqI x (g i)) (eqL l (Nat.succ i) g)
 |_,_,_=>false
def eqB(B:Blk)(l:AV):Bool:=match B with
 |.s _ cs n=>and (Nat.beq n (lenA l)) (eqL l 0 fun i=>get 2 i cs)
 |.c _ cs n=>and (Nat.beq n (lenA l)) (eqL l 0 fun i=>get 6 i cs)
 |_=>false
def okE(r:Res):Bool:=match r with
 |.fv (.b true) H=>and (eqB (get 7 0 H.h) powL) (eqB (get 7 24 H.h) rowsL)
 |_=>false
def pkC(a b:AV)(H:HS):Res:=match a,b with
 |.r g _,.i .i64 (.ofNat m)=>iB (and (and (Nat.blt 0 m) (Nat.ble m 1000)) (and (Nat.ble 1000 g) (Nat.beq (Nat.div (Nat.sub g 1000) 64) m))) (fN (Nat.mod (Nat.sub g 1000) 64) fun k=>.fv (.i .i64 (.ofNat k)) H) .fail
 |_,_=>.fail
def hkPick:Hk:=⟨fun _ k t H=>iB (Nat.beq k 2) (pkC (t.a0) (t.a1) H) .fail⟩
def itC(gp:Nat)(l a:AV)(H:HS):Res:=match a with
 |.r g j=>iB (isNu g) (iB (eqB (get 7 gp H.h) l) (fN (Nat.add g 30) fun q=>.fv (.r q j) H) .fail) .fail
 |_=>.fail
def hkItoa(gp:Nat)(l:AV):Hk:=⟨fun _ k t H=>iB (Nat.beq k 1) (itC gp l (t.a0) H) .fail⟩
def nmC(chk:HS→Bool)(a:AV)(H:HS):Res:=match a with
 |.r g j=>iB (and (isTx g) (chk H)) (fN (Nat.sub g 30) fun q=>.fv (.k 1 0 (.cons (.r q j) (.cons (.b true) .nil))) H) .fail
 |_=>.fail
def hkNum(chk:HS→Bool):Hk:=⟨fun _ k t H=>iB (Nat.beq k 1) (nmC chk (t.a0) H) .fail⟩
def plA:AV:=.k 6 0 (.cons (.i .i64 (.ofNat 2000)) .nil)
def wPl(o:Option Nat)(k:Nat):AV:=match o with|some b=>.i .i64 (.ofNat (Nat.add b k))|none=>plA
def gapB(c:Nat):Bool:=or (Nat.beq c 32) (Nat.beq c 10)
def brkB(c:Nat):Bool:=or (Nat.beq c 40) (Nat.beq c 41)
def flsh(o:Option Nat)(k cl cv:Nat)(acc:AV):AV:=bif Nat.beq cl 0 then acc else .cons (.s cl cv) (.cons (wPl o (Nat.sub k cl)) acc)
def tokS(o:Option Nat):Nat→Nat→Nat→Nat→Nat→AV→(AV×Nat×Nat)
 |0,_,_,cl,cv,acc=>(acc,cl,cv)
 |l+1,n,k,cl,cv,acc=>
  bif brkB (Nat.mod n 256) then tokS o l (Nat.div n 256) (Nat.succ k) 0 0 (.cons (.s 1 (Nat.mod n 256)) (.cons (wPl o k) (flsh o k cl cv acc)))
  else bif gapB (Nat.mod n 256) then tokS o l (Nat.div n 256) (Nat.succ k) 0 0 (flsh o k cl cv acc)
  else tokS o l (Nat.div n 256) (Nat.succ k) (Nat.succ cl) (Nat.add cv (Nat.mul (Nat.mod n 256) (Nat.pow 256 cl))) acc
def revA:AV→AV→AV
 |.cons x (.cons y l),acc=>revA l (.cons x (.cons y acc))
 |_,acc=>acc
def hdB:AV→Bool
 |.cons (.s l n) _=>and (Nat.blt 0 l) (or (gapB (Nat.mod n 256)) (brkB (Nat.mod n 256)))
 |_=>false
def cutL:AV→Option Nat→Nat→Nat→Nat→AV→Option AV
 |.nil,o,k,cl,_,acc=>bif Nat.beq cl 0 then some (revA acc (.cons (.s 0 0) (.cons (wPl o k) .nil))) else none
 |.cons (.s l n) t,o,k,cl,cv,acc=>match tokS o l n k cl cv acc with
  |(acc,cl,cv)=>cutL t o (Nat.add k l) cl cv acc
 |.cons (.r g j) t,o,k,cl,_,acc=>bif and (Nat.beq cl 0) (and (isTx g) (hdB t)) then cutL t none 0 0 0 (.cons (.r g j) (.cons (wPl o k) acc)) else none
 |_,_,_,_,_,_=>none
def normL:AV→(AV→Res)→Res:=AV.rec (motive:=fun _=>(AV→Res)→Res) (fun _=>.fail) (fun C=>C .nil) (fun x _ _ ih C=>fV x fun x=>ih fun l=>C (.cons x l)) (fun _ _=>.fail) (fun _ _ _=>.fail) (fun _ _ _ _ _=>.fail) (fun _ _ _=>.fail) (fun _ _ _ _ _ _ _=>.fail) (fun _ _ _=>.fail) (fun _ _=>.fail) (fun _ _ _=>.fail)
def cutC(tw:TypeId)(a:AV)(H:HS):Res:=match a with
 |.k 4 _ l=>match segs l with
  |some (_,b)=>iB (Nat.ble b 2000) (oR (cutL l (some 0) 0 0 0 .nil) fun l=>normL l fun l=>hH (fun h nx=>newB (some tw) l h nx fun h nx2=>fN (Nat.div (lenA l) 2) fun m=>.fv (.sl nx 2 0 0 m none) ⟨h,nx2⟩) H) .fail
  |none=>.fail
 |_=>.fail
def hkCut(tw:TypeId):Hk:=⟨fun _ k t H=>iB (Nat.beq k 1) (cutC tw t.a0 H) .fail⟩
def cellsL(d:Nat)(cs:Tr AV d):Nat→Nat→AV
 |0,_=>.nil
 |m+1,o=>.cons (get d o cs) (cellsL d cs m (Nat.succ o))
def rowL(sz:Nat)(h:Tr Blk 7)(a:AV):Option (AV×Nat):=match a with
 |.v (.slice none 0 0)=>some (.nil,0)
 |.sl b e o _ n _=>bif Nat.beq e sz then (match get 7 b h with
  |.s _ cs nb=>bif Nat.ble (Nat.mul (Nat.add o n) e) nb then some (cellsL 2 cs (Nat.mul n e) (Nat.mul o e),n) else none
  |.c _ cs nb=>bif Nat.ble (Nat.mul (Nat.add o n) e) nb then some (cellsL 6 cs (Nat.mul n e) (Nat.mul o e),n) else none
  |_=>none) else none
 |_=>none
def numV(a:AV):Option AV:=match a with
 |.i .i64 z=>some (.i .i64 z)
 |.r g j=>bif isNu g then some (.r g j) else none
 |_=>none
def altL:AV→Option AV
 |.nil=>some .nil
 |.cons (.i .i64 x) (.cons (.i .i64 y) t)=>(altL t).map fun t=>.cons (.i .i64 x) (.cons (.i .i64 y) t)
 |_=>none
def mapC(h:Tr Blk 7):AV→Option AV
 |.nil=>some .nil
 |.cons (.i .i64 z) (.cons y (.cons a t))=>match numV y,rowL 2 h a with
  |some y,some (l,_)=>match altL l with
   |some l=>(mapC h t).map fun t=>.cons (.i .i64 z) (.cons y (.cons (.k 0 0 l) t))
   |none=>none
  |_,_=>none
 |_=>none
def mapG(h:Tr Blk 7):AV→Option AV
 |.nil=>some .nil
 |.cons (.s l n) (.cons (.i .i64 z) (.cons (.b x) (.cons a t)))=>bif Nat.ble l 1000 then (match rowL 3 h a with
  |some (c,_)=>match mapC h c with
   |some c=>(mapG h t).map fun t=>.cons (.s l n) (.cons (.i .i64 z) (.cons (.b x) (.cons (.k 0 0 c) t)))
   |none=>none
  |none=>none) else none
 |_=>none
def rdO(h:Tr Blk 7)(a:AV):Option AV:=match a with
 |.k 0 _ (.cons (.s l n) (.cons i (.cons g .nil)))=>bif Nat.ble l 1000 then (match rowL 2 h i,rowL 4 h g with
  |some (.nil,_),some (g,_)=>(mapG h g).map fun g=>.k 0 0 (.cons (.s l n) (.cons (.k 0 0 g) .nil))
  |_,_=>none) else none
 |_=>none
def wt:AV→Nat
 |.cons x t=>Nat.add 25 (Nat.add (wt x) (wt t))
 |.k _ _ l=>wt l
 |.s l _=>l
 |_=>0
def nilR(r:Res)(C:Unit→Res):Res:=match r with|.fv (.v .nilIface) _=>C ()|_=>.fail
def tabB(H:HS):Bool:=eqB (get 7 24 H.h) rowsL
def encC(fv fs:Nat)(ih:Ih)(t:TM)(H:HS):Res:=oR (rdO H.h t.a0) fun o=>iB (and (tabB H) (Nat.ble (wt o) 99000)) (nilR (ih.c fv 1 t H) fun _=>nilR (ih.c fs 1 t H) fun _=>.fv (.k 1 0 (.cons (.k 7 0 (.cons o .nil)) (.cons (.i .i64 (.ofNat 0)) .nil))) H) .fail
def hkEnc(fv fs:Nat):Hk:=⟨fun ih k t H=>iB (Nat.beq k 1) (encC fv fs ih t H) .fail⟩
def layR(ty sz:Nat)(l:AV)(h:Tr Blk 7)(nx:Nat)(C:AV→Tr Blk 7→Nat→Res):Res:=match l with
 |.nil=>C (.v (.slice none 0 0)) h nx
 |l=>newB (some ty) l h nx fun h nx2=>fN (Nat.div (lenA l) sz) fun m=>C (.sl nx sz 0 0 m none) h nx2
def layC(tA:Nat):AV→Tr Blk 7→Nat→(AV→Tr Blk 7→Nat→Res)→Res
 |.nil,h,nx,C=>C .nil h nx
 |.cons x (.cons y (.cons (.k 0 _ l) t)),h,nx,C=>layR tA 2 l h nx fun a h nx=>layC tA t h nx fun t h nx=>C (.cons x (.cons y (.cons a t))) h nx
 |_,_,_,_=>.fail
def layG(tA tI:Nat):AV→Tr Blk 7→Nat→(AV→Tr Blk 7→Nat→Res)→Res
 |.nil,h,nx,C=>C .nil h nx
 |.cons x (.cons y (.cons z (.cons (.k 0 _ c) t))),h,nx,C=>layC tA c h nx fun c h nx=>layR tI 3 c h nx fun a h nx=>layG tA tI t h nx fun t h nx=>C (.cons x (.cons y (.cons z (.cons a t)))) h nx
 |_,_,_,_=>.fail
def decC(tA tI tG:Nat)(a:AV)(H:HS):Res:=match a with
 |.k 7 _ (.cons (.k 0 _ (.cons nm (.cons (.k 0 _ g) .nil))) .nil)=>hH (fun h nx=>layG tA tI g h nx fun g h nx=>layR tG 4 g h nx fun a h nx=>.fv (.k 1 0 (.cons (.k 0 0 (.cons nm (.cons (.v (.slice none 0 0)) (.cons a .nil)))) (.cons (.i .i64 (.ofNat 0)) (.cons (.k 0 0 (.cons (.i .i64 (.ofNat 0)) (.cons (.i .i64 (.ofNat 0)) .nil))) .nil)))) ⟨h,nx⟩) H
 |_=>.fail
def hkDec(tA tI tG:Nat):Hk:=⟨fun _ k t H=>iB (and (tabB H) (Nat.beq k 1)) (decC tA tI tG t.a0 H) .fail⟩
end
end Go.Proofs.YtglihimiidiacaaGreatDoor.Ev8
