import Derived.WalkKit
import Derived.WalkSpells
import Derived.Lib.Bytealg
import Derived.Deep.RegionHeld3
import Derived.StillTail
import Derived.Ground.NamesProg
import Derived.Shelf.Strconv.Itoa3
import Derived.Test.YtahmgjjgikgpoaaGreatDoorProg
namespace Go.Proofs.YtahmgjjgikgpoaaGreatDoor
open Go.RowKit
structure LAlt where
 tag:Int
 «to»:Int
structure LIns where
 op:Int
 a:Int
 alts:List LAlt
structure LImp where
 name:ByteArray
 arity:Int
structure LGlob where
 name:ByteArray
 arity:Int
 exp:Bool
 code:List LIns
structure LObj where
 name:ByteArray
 imps:List LImp
 globs:List LGlob
def short(n:Nat):Prop:=n<140737488355328
theorem short.le{n:Nat}(h:short n):n<140737488355328:=h
def AltsAt(w:World)(v:Value)(l:List LAlt):Prop:=
 ∃p cap,v=.slice p l.length cap∧short l.length∧∀i (h:i<l.length),∃b o,p=some ⟨b,o,none⟩∧w.cell? ⟨b,o+i*2,none⟩=some (.int .i64 l[i].tag)∧w.cell? ⟨b,o+i*2+1,none⟩=some (.int .i64 l[i].to)
def CodeAt(w:World)(v:Value)(l:List LIns):Prop:=
 ∃p cap,v=.slice p l.length cap∧short l.length∧∀i (h:i<l.length),∃b o av,p=some ⟨b,o,none⟩∧w.cell? ⟨b,o+i*3,none⟩=some (.int .i64 l[i].op)∧w.cell? ⟨b,o+i*3+1,none⟩=some (.int .i64 l[i].a)∧w.cell? ⟨b,o+i*3+2,none⟩=some av∧AltsAt w av l[i].alts
def ImpsAt(w:World)(v:Value)(l:List LImp):Prop:=
 ∃p cap,v=.slice p l.length cap∧short l.length∧∀i (h:i<l.length),∃b o,p=some ⟨b,o,none⟩∧w.cell? ⟨b,o+i*2,none⟩=some (.string l[i].name)∧w.cell? ⟨b,o+i*2+1,none⟩=some (.int .i64 l[i].arity)∧l[i].name.size<=maxLen
def GlobsAt(w:World)(v:Value)(l:List LGlob):Prop:=
 ∃p cap,v=.slice p l.length cap∧short l.length∧∀i (h:i<l.length),∃b o cv,p=some ⟨b,o,none⟩∧w.cell? ⟨b,o+i*4,none⟩=some (.string l[i].name)∧w.cell? ⟨b,o+i*4+1,none⟩=some (.int .i64 l[i].arity)∧w.cell? ⟨b,o+i*4+2,none⟩=some (.bool l[i].exp)∧w.cell? ⟨b,o+i*4+3,none⟩=some cv∧CodeAt w cv l[i].code∧l[i].name.size<=maxLen
def ObjAt(w:World)(v:Value)(O:LObj):Prop:=
 ∃iv gv,v=.agg #[.string O.name,iv,gv]∧O.name.size<=maxLen∧ImpsAt w iv O.imps∧GlobsAt w gv O.globs
theorem cell_keep{w w':World}(hb:Below w.heap.size w w'){a:Addr}{v:Value}(h:w.cell? a=some v):w'.cell? a=some v:=by
 rw[hb.cell (block_lt_of_cell h)];exact h
theorem bcell{W w1:World}(hb:Below W.heap.size W w1):(∀b o,b<W.heap.size->w1.cell? ⟨b,o,none⟩=W.cell? ⟨b,o,none⟩)∧(∀b o,b<W.heap.size->w1.frozen? ⟨b,o,none⟩=W.frozen? ⟨b,o,none⟩):=
 ⟨λb o h=>hb.cell (p:=⟨b,o,none⟩) h,λb o h=>hb.frozen (p:=⟨b,o,none⟩) h⟩
theorem AltsAt.keep{w w':World}(hb:Below w.heap.size w w'){v:Value}{l:List LAlt}(h:AltsAt w v l):AltsAt w' v l:=by
 obtain⟨p,cap,e,hs,hc⟩:=h;refine⟨p,cap,e,hs,λi hi=>?_⟩;obtain⟨b,o,e2,h0,h1⟩:=hc i hi;exact⟨b,o,e2,cell_keep hb h0,cell_keep hb h1⟩
theorem CodeAt.keep{w w':World}(hb:Below w.heap.size w w'){v:Value}{l:List LIns}(h:CodeAt w v l):CodeAt w' v l:=by
 obtain⟨p,cap,e,hs,hc⟩:=h;refine⟨p,cap,e,hs,λi hi=>?_⟩;obtain⟨b,o,av,e2,h0,h1,h2,h3⟩:=hc i hi;exact⟨b,o,av,e2,cell_keep hb h0,cell_keep hb h1,cell_keep hb h2,h3.keep hb⟩
theorem ImpsAt.keep{w w':World}(hb:Below w.heap.size w w'){v:Value}{l:List LImp}(h:ImpsAt w v l):ImpsAt w' v l:=by
 obtain⟨p,cap,e,hs,hc⟩:=h;refine⟨p,cap,e,hs,λi hi=>?_⟩;obtain⟨b,o,e2,h0,h1,h2⟩:=hc i hi;exact⟨b,o,e2,cell_keep hb h0,cell_keep hb h1,h2⟩
theorem GlobsAt.keep{w w':World}(hb:Below w.heap.size w w'){v:Value}{l:List LGlob}(h:GlobsAt w v l):GlobsAt w' v l:=by
 obtain⟨p,cap,e,hs,hc⟩:=h;refine⟨p,cap,e,hs,λi hi=>?_⟩;obtain⟨b,o,cv,e2,h0,h1,h2,h3,h4,h5⟩:=hc i hi;exact⟨b,o,cv,e2,cell_keep hb h0,cell_keep hb h1,cell_keep hb h2,cell_keep hb h3,h4.keep hb,h5⟩
theorem ObjAt.keep{w w':World}(hb:Below w.heap.size w w'){v:Value}{O:LObj}(h:ObjAt w v O):ObjAt w' v O:=by
 obtain⟨iv,gv,e,hn,hi,hg⟩:=h;exact⟨iv,gv,e,hn,hi.keep hb,hg.keep hb⟩
def AltsIn(w:World)(p:Option Addr)(l:List LAlt):Prop:=
 ∀i (h:i<l.length),∃b o,p=some ⟨b,o,none⟩∧w.cell? ⟨b,o+i*2,none⟩=some (.int .i64 l[i].tag)∧w.cell? ⟨b,o+i*2+1,none⟩=some (.int .i64 l[i].to)
def CodeIn(w:World)(p:Option Addr)(l:List LIns):Prop:=
 ∀i (h:i<l.length),∃b o ap an ac,p=some ⟨b,o,none⟩∧w.cell? ⟨b,o+i*3,none⟩=some (.int .i64 l[i].op)∧w.cell? ⟨b,o+i*3+1,none⟩=some (.int .i64 l[i].a)∧w.cell? ⟨b,o+i*3+2,none⟩=some (.slice ap an ac)∧AltsAt w (.slice ap an ac) l[i].alts
def ImpsIn(w:World)(p:Option Addr)(l:List LImp):Prop:=
 ∀i (h:i<l.length),∃b o,p=some ⟨b,o,none⟩∧w.cell? ⟨b,o+i*2,none⟩=some (.string l[i].name)∧w.cell? ⟨b,o+i*2+1,none⟩=some (.int .i64 l[i].arity)∧l[i].name.size<=maxLen
def GlobsIn(w:World)(p:Option Addr)(l:List LGlob):Prop:=
 ∀i (h:i<l.length),∃b o cp cn cc,p=some ⟨b,o,none⟩∧w.cell? ⟨b,o+i*4,none⟩=some (.string l[i].name)∧w.cell? ⟨b,o+i*4+1,none⟩=some (.int .i64 l[i].arity)∧w.cell? ⟨b,o+i*4+2,none⟩=some (.bool l[i].exp)∧w.cell? ⟨b,o+i*4+3,none⟩=some (.slice cp cn cc)∧CodeAt w (.slice cp cn cc) l[i].code∧l[i].name.size<=maxLen
theorem AltsAt.open{w:World}{v:Value}{l:List LAlt}(h:AltsAt w v l):∃p cap,v=.slice p l.length cap∧l.length<140737488355328∧∀w',Below w.heap.size w w'->AltsIn w' p l:=by
 obtain⟨p,cap,e,hs,hc⟩:=h;refine⟨p,cap,e,hs.le,λw' hb i hi=>?_⟩;obtain⟨b,o,e2,h0,h1⟩:=hc i hi;exact⟨b,o,e2,cell_keep hb h0,cell_keep hb h1⟩
theorem CodeAt.open{w:World}{v:Value}{l:List LIns}(h:CodeAt w v l):∃p cap,v=.slice p l.length cap∧l.length<140737488355328∧∀w',Below w.heap.size w w'->CodeIn w' p l:=by
 obtain⟨p,cap,e,hs,hc⟩:=h;refine⟨p,cap,e,hs.le,λw' hb i hi=>?_⟩;obtain⟨b,o,av,e2,h0,h1,h2,h3⟩:=hc i hi;obtain⟨ap,ac,rfl,-,-⟩:=id h3;exact⟨b,o,ap,_,ac,e2,cell_keep hb h0,cell_keep hb h1,cell_keep hb h2,h3.keep hb⟩
theorem ImpsAt.open{w:World}{v:Value}{l:List LImp}(h:ImpsAt w v l):∃p cap,v=.slice p l.length cap∧l.length<140737488355328∧∀w',Below w.heap.size w w'->ImpsIn w' p l:=by
 obtain⟨p,cap,e,hs,hc⟩:=h;refine⟨p,cap,e,hs.le,λw' hb i hi=>?_⟩;obtain⟨b,o,e2,h0,h1,h2⟩:=hc i hi;exact⟨b,o,e2,cell_keep hb h0,cell_keep hb h1,h2⟩
theorem GlobsAt.open{w:World}{v:Value}{l:List LGlob}(h:GlobsAt w v l):∃p cap,v=.slice p l.length cap∧l.length<140737488355328∧∀w',Below w.heap.size w w'->GlobsIn w' p l:=by
 obtain⟨p,cap,e,hs,hc⟩:=h;refine⟨p,cap,e,hs.le,λw' hb i hi=>?_⟩;obtain⟨b,o,cv,e2,h0,h1,h2,h3,h4,h5⟩:=hc i hi;obtain⟨cp,cc,rfl,-,-⟩:=id h4;exact⟨b,o,cp,_,cc,e2,cell_keep hb h0,cell_keep hb h1,cell_keep hb h2,cell_keep hb h3,h4.keep hb,h5⟩
def rowsTab:List Int:=[1,0,0,0,0,1,0,
 2,0,65535,0,0,1,0,
 2,0,1000,1,1,1,0,
 0,0,0,2,0,-1,0,
 2,0,1000,1,1,0,-1,
 2,0,1000,2,1,-1,0,
 2,0,1000,0,1,0,-1,
 2,1,1000,0,0,0,1,
 0,0,0,1,0,0,0,
 0,0,0,2,0,-1,0,
 0,0,0,2,0,-1,0,
 0,0,0,2,0,-1,0,
 0,0,0,2,0,-1,0,
 0,0,0,2,0,-1,0,
 0,0,0,2,0,-1,0,
 2,0,65535,0,1,1,-1,
 2,0,255,1,0,-1,1,
 3,0,0,1,0,0,0,
 2,0,65535,0,0,0,0,
 0,0,0,1,0,0,0,
 0,0,0,0,0,0,0]
def rowN(k j:Nat):Int:=rowsTab.getD (k*7+j) 0
def TabAt(w:World):Prop:=∀i,i<147->w.cell? ⟨20,i,none⟩=some (.int .i64 (rowsTab.getD i 0))
theorem TabAt.keep{w w':World}(hb:Below w.heap.size w w')(h:TabAt w):TabAt w':=λi hi=>cell_keep hb (h i hi)
theorem TabAt.row{w:World}(h:TabAt w)(k j:Nat)(hk:k<21)(hj:j<7):w.cell? ⟨20,k*7+j,none⟩=some (.int .i64 (rowN k j)):=h _ (by omega)
def cmpB(a b:ByteArray):Int:=Lib.compareBytes a.data.toList b.data.toList
def gtB(a b:ByteArray):Bool:=!(Op.bytesLess a.toList b.toList||a.toList==b.toList)
theorem cmp_lt:∀x y:List UInt8,Lib.compareBytes x y<0↔Op.bytesLess x y=true
 |[],[]=>by simp[Lib.compareBytes,Op.bytesLess]
 |[],_::_=>by simp[Lib.compareBytes,Op.bytesLess]
 |_::_,[]=>by simp[Lib.compareBytes,Op.bytesLess]
 |a::x,b::y=>by
  have ih:=cmp_lt x y;simp only[Lib.compareBytes,Op.bytesLess];by_cases h1:a<b
  ·simp[h1]
  ·by_cases h2:b<a
   ·have h3:a≠b:=by rintro rfl;exact h1 h2
    simp[h1,h2,h3]
   ·have h3:a=b:=UInt8.le_antisymm (UInt8.not_lt.1 h2) (UInt8.not_lt.1 h1);subst h3;simp[h1,ih]
theorem cmp_eq0:∀x y:List UInt8,Lib.compareBytes x y=0↔x=y
 |[],[]=>by simp[Lib.compareBytes]
 |[],_::_=>by simp[Lib.compareBytes]
 |_::_,[]=>by simp[Lib.compareBytes]
 |a::x,b::y=>by
  have ih:=cmp_eq0 x y;simp only[Lib.compareBytes];by_cases h1:a<b
  ·have h3:a≠b:=by rintro rfl;exact UInt8.lt_irrefl _ h1
   simp[h1,h3]
  ·by_cases h2:b<a
   ·have h3:a≠b:=by rintro rfl;exact h1 h2
    simp[h1,h2,h3]
   ·have h3:a=b:=UInt8.le_antisymm (UInt8.not_lt.1 h2) (UInt8.not_lt.1 h1);subst h3;simp[h1,ih]
theorem cmp_swap:∀x y:List UInt8,Lib.compareBytes x y=-Lib.compareBytes y x
 |[],[]=>by simp[Lib.compareBytes]
 |[],_::_=>by simp[Lib.compareBytes]
 |_::_,[]=>by simp[Lib.compareBytes]
 |a::x,b::y=>by
  have ih:=cmp_swap x y;simp only[Lib.compareBytes];by_cases h1:a<b
  ·have h2:¬b<a:=λh=>UInt8.lt_irrefl _ (UInt8.lt_trans h h1);simp[h1,h2]
  ·by_cases h2:b<a
   ·simp[h1,h2]
   ·simp[h1,h2,ih]
theorem less_trans:∀x y z:List UInt8,Op.bytesLess x y=true->Op.bytesLess y z=true->Op.bytesLess x z=true
 |_,[],z=>by simp[Op.bytesLess]
 |[],b::y,[]=>by simp[Op.bytesLess]
 |[],b::y,c::z=>by simp[Op.bytesLess]
 |a::x,b::y,[]=>by simp[Op.bytesLess]
 |a::x,b::y,c::z=>by
  have ih:=less_trans x y z;simp only[Op.bytesLess,Bool.or_eq_true,Bool.and_eq_true,decide_eq_true_eq,beq_iff_eq];rintro(h1|⟨rfl,h1⟩) (h2|⟨rfl,h2⟩)
  ·exact Or.inl (UInt8.lt_trans h1 h2)
  ·exact Or.inl h1
  ·exact Or.inl h2
  ·exact Or.inr ⟨rfl,ih h1 h2⟩
theorem gtB_iff(a b:ByteArray):gtB a b=true↔cmpB b a<0:=by
 unfold gtB cmpB;rw[cmp_swap,ByteArray.toList_eq,ByteArray.toList_eq];have h1:=cmp_lt a.data.toList b.data.toList;have h2:=cmp_eq0 a.data.toList b.data.toList;simp only[Bool.not_eq_true',Bool.or_eq_false_iff,beq_eq_false_iff_ne];constructor
 ·rintro⟨h3,h4⟩;have:¬Lib.compareBytes a.data.toList b.data.toList<0:=by rw[h1,h3];simp
  have:¬Lib.compareBytes a.data.toList b.data.toList=0:=by rw[h2];exact h4
  omega
 ·intro h;exact⟨by rw[Bool.eq_false_iff];intro h3;have:=h1.2 h3;omega,λh3=>by have:=h2.2 h3;omega⟩
theorem cmpB_trans{a b c:ByteArray}(h1:cmpB a b<0)(h2:cmpB b c<0):cmpB a c<0:=by
 unfold cmpB at*;rw[cmp_lt]at*;exact less_trans _ _ _ h1 h2
theorem cmpB_eq0(a b:ByteArray):cmpB a b=0↔a=b:=by
 unfold cmpB;rw[cmp_eq0];constructor
 ·intro h;obtain⟨⟨x⟩⟩:=a;obtain⟨⟨y⟩⟩:=b;simp at h;rw[h]
 ·rintro rfl;rfl
theorem le_eq(a b:ByteArray):(Op.bytesLess a.toList b.toList||a.toList==b.toList)=!gtB a b:=by simp[gtB]
def Rising(l:List LImp):Prop:=∀i j (hi:i<l.length) (hj:j<l.length),i<j->cmpB l[i].name l[j].name<0
def hasN(l:List LImp)(n:ByteArray):Bool:=l.any λx=>decide (cmpB x.name n=0)
theorem hasN_true(l:List LImp)(n:ByteArray)(k:Nat)(hk:k<l.length)(h:cmpB l[k].name n=0):hasN l n=true:=by
 simp only[hasN,List.any_eq_true];exact⟨_,List.getElem_mem hk,by simpa using h⟩
theorem hasN_false(l:List LImp)(n:ByteArray)(h:∀k (hk:k<l.length),cmpB l[k].name n≠0):hasN l n=false:=by
 simp only[hasN,List.any_eq_false];intro x hx;obtain⟨i,hi,rfl⟩:=List.mem_iff_getElem.1 hx;simpa using h i hi
def Sides(l:List LImp)(n:ByteArray)(i j:Nat):Prop:=(∀a (h:a<l.length),a<i->cmpB l[a].name n<0)∧∀a (h:a<l.length),j<=a->¬cmpB l[a].name n<0
theorem Sides.left{l:List LImp}{n:ByteArray}{i j h:Nat}(hr:Rising l)(hh:h<l.length)(hs:Sides l n i j)(hc:cmpB l[h].name n<0):Sides l n (h+1) j:=by
 refine⟨λa ha hah=>?_,hs.2⟩;by_cases e:a=h
 ·subst e;exact hc
 ·exact cmpB_trans (hr a h ha hh (by omega)) hc
theorem Sides.right{l:List LImp}{n:ByteArray}{i j h:Nat}(hr:Rising l)(hh:h<l.length)(hs:Sides l n i j)(hc:¬cmpB l[h].name n<0):Sides l n i h:=by
 refine⟨hs.1,λa ha hah hlt=>?_⟩;by_cases e:h=a
 ·subst e;exact hc hlt
 ·exact hc (cmpB_trans (hr h a hh ha (by omega)) hlt)
theorem Sides.found{l:List LImp}{n:ByteArray}{i:Nat}(hr:Rising l)(hi:i<l.length)(hs:Sides l n i i):hasN l n=(cmpB l[i].name n==0):=by
 by_cases h:cmpB l[i].name n=0
 ·rw[hasN_true l n i hi h];simp[h]
 ·rw[hasN_false l n ?_]
  ·simp[h]
  ·intro k hk hz;have h1:=hs.2 i hi (Nat.le_refl _);by_cases hki:k<i
   ·have:=hs.1 k hk hki;omega
   ·by_cases e:k=i
    ·subst e;exact h hz
    ·have h2:=hr i k hi hk (by omega);rw[(cmpB_eq0 _ _).1 hz]at h2;omega
theorem Sides.none{l:List LImp}{n:ByteArray}{i:Nat}(hi:¬i<l.length)(hs:Sides l n i i):hasN l n=false:=
 hasN_false l n λk hk=>by have:=hs.1 k hk (by omega);omega
end Go.Proofs.YtahmgjjgikgpoaaGreatDoor
namespace Go.Proofs.YtahmgjjgikgpoaaGreatDoor
section
variable {P:Program} {ops:Array Oper} {Q:Exit->Act->World->Prop} {md:Region.Mode} {S:World->Prop}
def downB(md:Region.Mode)(ops:Array Oper):Bool:=(List.range ops.size).all λi=>match ops[i]? with|some o=>o.after.all λe=>!Region.binds md e||decide (e.on<i)|none=>false
theorem downB_spec(h:downB md ops=true){i:Nat}{o:Oper}(ho:ops[i]?=some o):∀e∈o.after,Region.binds md e=true->e.on<i:=by
 intro e he hb;have h1:=List.all_eq_true.1 h i (List.mem_range.2 (Array.getElem?_eq_some_iff.1 ho).1);rw[ho]at h1;simp only at h1;have h2:=Array.all_eq_true'.1 h1 e he;simpa[hb]using h2
theorem least_ready(hd:downB md ops=true){listed:Array Bool}(hs:listed.size=ops.size):∀i,i<ops.size->listed.getD i true=false->Region.ready md ops listed≠[]:=by
 intro i;induction i using Nat.strongRecOn with
 |_ i ih=>
  intro hi hun;have ho:ops[i]?=some ops[i]:=Array.getElem?_eq_getElem hi;by_cases hall:∀e∈ops[i].after,Region.binds md e=true->listed.getD e.on false=true
  ·have hm:i∈Region.ready md ops listed:=mem_ready.2 ⟨hun,_,ho,hall⟩;intro h0;rw[h0]at hm;cases hm
  ·have hne:∃e,e∈ops[i].after∧Region.binds md e=true∧listed.getD e.on false=false:=by
    apply Classical.byContradiction;intro hc;apply hall;intro e he hb;cases hx:listed.getD e.on false with
    |true=>rfl
    |false=>exact absurd ⟨e,he,hb,hx⟩ hc
   obtain⟨e,he,hb,hx⟩:=hne;have hlt:=downB_spec hd ho e he hb;exact ih e.on hlt (by omega) (getD_in (by omega) hx)
theorem all_listed(hd:downB md ops=true){listed:Array Bool}(hs:listed.size=ops.size)(h0:Region.ready md ops listed=[]):∀i,i<ops.size->listed.getD i false=true:=by
 intro i hi;cases hx:listed.getD i false with
 |true=>rfl
 |false=>exact absurd h0 (least_ready hd hs i hi (getD_in (by omega) hx))
def tailQ(P:Program)(ops:Array Oper)(Q:Exit->Act->World->Prop)(n k:Nat):Exit->Act->World->Prop
 |.normal,a,w=>wpOps P ops Q (List.range' n k) a w
 |e,a,w=>Q e a w
theorem wpOp_tailQ{n k i:Nat}{K:Act->World->Prop}{a:Act}{w:World}(h:wpOp P ops (tailQ P ops Q n k) i K a w):wpOp P ops Q i K a w:=by
 unfold wpOp at*;split
 ·rename_i h0;simpa only[h0]using h
 ·rename_i o h0
  simp only[h0]at h;split
  ·rename_i hw
   simp only[hw,if_true]at h;rcases h with h|h
   ·refine .inl ?_;unfold Oper.wp at*;generalize (execOp a.eval o).run P w=r at*;cases r with
    |ok nx w'=>
     cases nx<;>simp only[Oper.upon]at h ⊢<;>first|exact h|exact Calls.mono h (λe w'' he=>by cases e<;>exact he)
    |halt x w'=>cases x<;>simp only[Oper.upon]at h ⊢<;>exact h
   ·exact .inr h
  ·rename_i hw
   simp only[hw]at h;exact h
def setTail:Array Bool->Nat->Nat->Array Bool
 |l,_,0=>l
 |l,n,k+1=>(setTail l (n+1) k).setIfInBounds n true
theorem setTail_size:∀(k n:Nat) (l:Array Bool),(setTail l n k).size=l.size
 |0,_,_=>rfl
 |k+1,n,l=>by rw[setTail,Array.size_setIfInBounds,setTail_size k]
theorem setTail_lt:∀(k n:Nat) (l:Array Bool) (i:Nat) (d:Bool),i<n->(setTail l n k).getD i d=l.getD i d
 |0,_,_,_,_,_=>rfl
 |k+1,n,l,i,d,h=>by rw[setTail,getD_set_ne d (by omega),setTail_lt k (n+1) l i d (by omega)]
theorem setTail_ge:∀(k n:Nat) (l:Array Bool) (i:Nat) (d:Bool),n<=i->i<n+k->i<l.size->(setTail l n k).getD i d=true
 |0,_,_,_,_,h1,h2,_=>by omega
 |k+1,n,l,i,d,h1,h2,h3=>by
  rw[setTail];by_cases h:n=i
  ·subst h;rw[Array.getD_eq_getD_getElem?,Array.getElem?_setIfInBounds_self_of_lt (by rw[setTail_size];exact h3)];rfl
  ·rw[getD_set_ne d h,setTail_ge k (n+1) l i d (by omega) (by omega) h3]
theorem setTail_true{k n:Nat}{l:Array Bool}{i:Nat}(h:l.getD i false=true):(setTail l n k).getD i false=true:=by
 induction k generalizing n with
 |zero=>exact h
 |succ k ih=>rw[setTail];exact getD_set_true ih
theorem setTail_comm:∀(k n:Nat) (l:Array Bool) (i:Nat),i<n->(setTail l n k).setIfInBounds i true=setTail (l.setIfInBounds i true) n k
 |0,_,_,_,_=>rfl
 |k+1,n,l,i,h=>by rw[setTail,setTail,Array.setIfInBounds_comm _ _ (by omega),setTail_comm k (n+1) l i (by omega)]
theorem ready_setTail{n k i:Nat}{listed:Array Bool}(hi:i<n)(h:i∈Region.ready md ops listed):i∈Region.ready md ops (setTail listed n k):=by
 obtain⟨h0,o,ho,hall⟩:=mem_ready.1 h;exact mem_ready.2 ⟨by rw[setTail_lt _ _ _ _ _ hi];exact h0,o,ho,λe he hb=>setTail_true (hall e he hb)⟩
theorem tail_run(hd:downB md ops=true):∀(k n:Nat) (listed:Array Bool) (a:Act) (w:World),n+k=ops.size->Region.chainB md ops n=true->listed.size=ops.size->(∀i,i<n->listed.getD i true=true)->(∀t,n<=t->t<ops.size->listed.getD t true=false)->
 wpOps P ops Q (List.range' n k) a w->∀fuel,k<=fuel->wpAny P md ops Q fuel listed a w:=by
 intro k;induction k with
 |zero=>
  intro n listed a w hn _ hs hall _ h fuel _;refine wpAny_done ?_ h fuel;cases hr:Region.ready md ops listed with
  |nil=>rfl
  |cons j l=>
   have hj:j∈Region.ready md ops listed:=by rw[hr];simp
   obtain⟨hun,o,ho,-⟩:=mem_ready.1 hj;rw[hall j (by have:=(Array.getElem?_eq_some_iff.1 ho).1;omega)]at hun;cases hun
 |succ k ih=>
  intro n listed a w hn hc hs hall htl h fuel hf;obtain⟨f,rfl⟩:∃f,fuel=f+1:=⟨fuel-1,by omega⟩;rw[List.range'_succ,wpOps_cons]at h;refine⟨λh0=>absurd h0 (least_ready hd hs n (by omega) (htl n (Nat.le_refl _) (by omega))),λi hi=>?_⟩;obtain⟨hun,o,ho,hw⟩:=mem_ready.1 hi;have hil:i<ops.size:=(Array.getElem?_eq_some_iff.1 ho).1;have hge:n<=i:=by
   rcases Nat.lt_or_ge i n with h1|h1
   ·rw[hall i h1]at hun;cases hun
   ·exact h1
  obtain rfl:i=n:=by
   rcases Nat.lt_or_ge n i with h1|h1
   ·exfalso;have h2:=List.all_eq_true.1 hc i (List.mem_range.2 hil);simp only[Bool.or_eq_true,decide_eq_true_eq]at h2;rcases h2 with h2|h2
    ·omega
    ·obtain⟨o',ho',e,he,hb,hon⟩:=Region.waitsFor_spec h2;obtain rfl:o'=o:=Option.some.inj (ho'.symm.trans ho);have h3:=hw e he hb;rw[hon,getD_both (htl (i-1) (by omega) (by omega))]at h3;cases h3
   ·omega
  refine wpOp_mono (λa' w' h'=>ih (i+1) _ a' w' (by omega) ?_ (by simpa using hs) (λj hj=>?_) (λt ht ht'=>?_) h' f (by omega)) h
  ·unfold Region.chainB at hc ⊢;rw[List.all_eq_true]at hc ⊢;intro t ht;have h2:=hc t ht;simp only[Bool.or_eq_true,decide_eq_true_eq]at h2 ⊢;rcases h2 with h2|h2
   ·exact .inl (by omega)
   ·exact .inr h2
  ·by_cases hij:i=j
   ·subst hij;rw[Array.getD_eq_getD_getElem?,Array.getElem?_setIfInBounds_self_of_lt (by omega)];rfl
   ·rw[getD_set_ne true hij];exact hall j (by omega)
  ·rw[getD_set_ne true (by omega)];exact htl t (by omega) ht'
theorem wpAny_tail{n k:Nat}(hn:n+(k+1)=ops.size)(hd:downB md ops=true)(hsk:Region.sinkB md ops n=true)(hch:Region.chainB md ops n=true):∀(f:Nat) (listed:Array Bool) (a:Act) (w:World),HeadInv md ops n listed->
 wpAnyH P md ops (tailQ P ops Q n (k+1)) S f (setTail listed n (k+1)) a w->wpAny P md ops Q (f+(k+1)) listed a w:=by
 have hrun:∀(f:Nat) (listed:Array Bool) (a:Act) (w:World),HeadInv md ops n listed->(∀i,i<n->listed.getD i true=true)->tailQ P ops Q n (k+1) .normal a w->wpAny P md ops Q (f+(k+1)) listed a w:=
  λf listed a w inv hall h=>tail_run hd (k+1) n listed a w hn hch inv.size hall inv.tail h _ (by omega)
 have hnil:∀(listed:Array Bool),HeadInv md ops n listed->(∀i,i<n->listed.getD i true=true)->Region.ready md ops (setTail listed n (k+1))=[]:=by
  intro listed inv hall;cases hr:Region.ready md ops (setTail listed n (k+1)) with
  |nil=>rfl
  |cons j l=>
   have hj:j∈Region.ready md ops (setTail listed n (k+1)):=by rw[hr];simp
   obtain⟨hun,o,ho,-⟩:=mem_ready.1 hj;have hjl:j<ops.size:=(Array.getElem?_eq_some_iff.1 ho).1;by_cases hjn:j<n
   ·rw[setTail_lt _ _ _ _ _ hjn,hall j hjn]at hun;cases hun
   ·rw[setTail_ge _ _ _ _ _ (by omega) (by omega) (by rw[inv.size];exact hjl)]at hun;cases hun
 have hsome:∀(listed:Array Bool),HeadInv md ops n listed->Region.ready md ops listed≠[]:=λlisted inv=>least_ready hd inv.size n (by omega) (inv.tail n (Nat.le_refl _) (by omega));intro f;induction f with
 |zero=>
  intro listed a w inv H;refine hrun 0 listed a w inv (λi hi=>?_) H.2;cases hx:listed.getD i true with
  |true=>rfl
  |false=>exact absurd H.1 (least_ready hd (by rw[setTail_size];exact inv.size) i (by omega) (by rw[setTail_lt _ _ _ _ _ hi];exact hx))
 |succ f ih=>
  intro listed a w inv H;by_cases hall:∀i,i<n->listed.getD i true=true
  ·exact hrun (f+1) listed a w inv hall (H.1 (hnil listed inv hall))
  ·have hne:∃i,i<n∧listed.getD i true=false:=by
    apply Classical.byContradiction;intro hc;apply hall;intro i hi;cases hx:listed.getD i true with
    |true=>rfl
    |false=>exact absurd ⟨i,hi,hx⟩ hc
   obtain⟨i0,hi0,hx0⟩:=hne;rw[show f+1+(k+1)=(f+(k+1))+1 by omega];refine⟨λh0=>absurd h0 (hsome listed inv),λi hi=>?_⟩;have hin:i<n:=by
    rcases Nat.lt_or_ge i n with h1|h1
    ·exact h1
    ·exact absurd hi (tail_waits hsk hch (by omega) inv _ i0 rfl hi0 hx0 i h1)
   refine wpOp_tailQ (wpOp_mono (λa' w' h'=>?_) (H.2 i (ready_setTail hin hi)));refine ih _ a' w' (inv.set hi hin) ?_;rw[<-setTail_comm _ _ _ _ hin];exact h'.2
theorem headInv0(n:Nat):HeadInv md ops n (Array.replicate ops.size false):=by
 refine⟨by simp,λj oj hj hl=>?_,λt ht ht'=>by simp[ht']⟩;rw[getD_replicate_false]at hl;cases hl
theorem region_tail{id:Nat}{a:Act}{w:World}(n k:Nat)(hm:P.follows .mixedOrders=true)(hn:n+(k+1)=ops.size)(hd:downB .any ops=true)(hsk:Region.sinkB .any ops n=true)(hch:Region.chainB .any ops n=true)(hS:S w.drew)
 (h:S w.drew->wpAnyH P .any ops (tailQ P ops Q n (k+1)) S n (setTail (Array.replicate ops.size false) n (k+1)) a w.drew):(Code.region id ops true).wp P Q a w:=by
 refine wp_region_any hm ?_;have h1:=wpAny_tail (P:=P) (Q:=Q) (S:=S) hn hd hsk hch n (Array.replicate ops.size false) a w.drew (headInv0 n) (h hS);rw[hn]at h1;exact h1
theorem count_set:∀(l:List Bool) (i:Nat),l[i]?=some false->(l.set i true).count false+1=l.count false
 |[],i,h=>by simp at h
 |b::l,0,h=>by simp at h;subst h;simp
 |b::l,i+1,h=>by
  have h1:=count_set l i (by simpa using h);simp only[List.set_cons_succ,List.count_cons];omega
theorem wpAnyH_inv(hd:downB md ops=true)(I:Array Bool->Act->World->Prop)
 (hstep:∀listed a w i o,I listed a w->ops[i]?=some o->listed.getD i true=false->(∀e∈o.after,Region.binds md e=true->listed.getD e.on false=true)->wpOp P ops Q i (λa' w'=>S w'∧I (listed.setIfInBounds i true) a' w') a w)
 (hend:∀listed a w,I listed a w->(∀i,i<ops.size->listed.getD i false=true)->Q .normal a w):
 ∀(fuel:Nat) (listed:Array Bool) (a:Act) (w:World),listed.size=ops.size->listed.toList.count false<=fuel->I listed a w->wpAnyH P md ops Q S fuel listed a w:=by
 intro fuel;induction fuel with
 |zero=>
  intro listed a w hs hc hI;have hall:∀i,i<ops.size->listed.getD i false=true:=by
   intro i hi;cases hx:listed.getD i false with
   |true=>rfl
   |false=>
    have hm:false∈listed.toList:=by
     have hil:i<listed.size:=by omega
     have:listed[i]=false:=by simpa[hil]using hx
     rw[<-this];exact Array.getElem_mem_toList hil
    have:=List.count_pos_iff.2 hm;omega
  refine⟨?_,hend _ _ _ hI hall⟩;cases hr:Region.ready md ops listed with
  |nil=>rfl
  |cons j l=>
   have hj:j∈Region.ready md ops listed:=by rw[hr];simp
   obtain⟨hun,o,ho,-⟩:=mem_ready.1 hj;have h1:=hall j (Array.getElem?_eq_some_iff.1 ho).1;rw[getD_both hun]at h1;cases h1
 |succ fuel ih=>
  intro listed a w hs hc hI;refine⟨λh0=>hend _ _ _ hI (all_listed hd hs h0),λi hi=>?_⟩;obtain⟨hun,o,ho,hall⟩:=mem_ready.1 hi;refine wpOp_mono (λa' w' h'=>⟨h'.1,ih _ a' w' (by simpa using hs) ?_ h'.2⟩) (hstep listed a w i o hI ho hun hall);have hil:i<listed.size:=by have:=(Array.getElem?_eq_some_iff.1 ho).1;omega
  have h2:=count_set listed.toList i (by
   rw[Array.getElem?_toList,Array.getElem?_eq_getElem hil];simpa[hil]using hun)
  rw[Array.toList_setIfInBounds];omega
end
structure Agree (D:List Nat) (a0 a:Act):Prop where
 defers:a.defers=a0.defers
 size:a.tmps.size=a0.tmps.size
 it:∀k,k∉D->a.tmps[k]?=a0.tmps[k]?
theorem Agree.refl(D:List Nat)(a:Act):Agree D a a:=⟨rfl,rfl,λ_ _=>rfl⟩
theorem Agree.put{D:List Nat}{a0 a:Act}(h:Agree D a0 a){d:Nat}(hd:d∈D)(v:Value):Agree D a0 (a.put (some d) v):=
 ⟨h.defers,by rw[<-h.size];exact Array.size_setIfInBounds,λk hk=>by
  rw[<-h.it k hk];exact Array.getElem?_setIfInBounds_ne (λe=>hk (by rw[<-e];exact hd))⟩
theorem Agree.eval{D:List Nat}{a0 a:Act}(h:Agree D a0 a){k:Nat}(hk:k∉D):a.eval (.tmp k)=a0.eval (.tmp k):=by
 show a.tmps.getD k undef=a0.tmps.getD k undef;rw[Array.getD_eq_getD_getElem?,Array.getD_eq_getD_getElem?,h.it k hk]
theorem eval_put_self{a:Act}{d:Nat}(hd:d<a.tmps.size)(v:Value):(a.put (some d) v).eval (.tmp d)=v:=by
 show(a.tmps.setIfInBounds d v).getD d undef=v;rw[Array.getD_eq_getD_getElem?,Array.getElem?_setIfInBounds_self_of_lt hd];rfl
theorem eval_put_ne{a:Act}{d k:Nat}(hd:d≠k)(v:Value):(a.put (some d) v).eval (.tmp k)=a.eval (.tmp k):=by
 show(a.tmps.setIfInBounds d v).getD k undef=a.tmps.getD k undef;rw[Array.getD_eq_getD_getElem?,Array.getD_eq_getD_getElem?,Array.getElem?_setIfInBounds_ne hd]
theorem Agree.first{d:Nat}{D:List Nat}{a0 a:Act}(h:Agree (d::D) a0 a):Agree D (a0.put (some d) (a.eval (.tmp d))) a:=by
 refine⟨h.defers,by rw[h.size];exact Array.size_setIfInBounds.symm,λk hk=>?_⟩;show _=(a0.tmps.setIfInBounds d (a.eval (.tmp d)))[k]?;by_cases hkd:d=k
 ·subst hkd;by_cases hlt:d<a0.tmps.size
  ·rw[Array.getElem?_setIfInBounds_self_of_lt hlt];show _=some (a.tmps.getD d undef);have h2:d<a.tmps.size:=by rw[h.size];exact hlt
   rw[Array.getD_eq_getD_getElem?,Array.getElem?_eq_getElem h2];rfl
  ·rw[Array.getElem?_eq_none (by rw[h.size];omega),Array.getElem?_eq_none (by rw[Array.size_setIfInBounds];omega)]
 ·rw[Array.getElem?_setIfInBounds_ne hkd];exact h.it k (λhm=>by rcases List.mem_cons.1 hm with e|e;exact hkd e.symm;exact hk e)
theorem agree_lit:∀{D:List Nat} {a0 a:Act},Agree D a0 a->a=D.foldl (λb d=>b.put (some d) (a.eval (.tmp d))) a0
 |[],a0,a,h=>by
  obtain⟨t0,d0⟩:=a0;obtain⟨t,d⟩:=a;obtain rfl:d=d0:=h.defers;obtain rfl:t=t0:=Array.ext_getElem? λk=>h.it k (by simp);rfl
 |d::D,a0,a,h=>agree_lit (D:=D) (a0:=a0.put (some d) (a.eval (.tmp d))) (a:=a) h.first
theorem inj_nodup{α β:Type}{f:α->β}:∀{l:List α},(l.map f).Nodup->∀{a b:α},a∈l->b∈l->f a=f b->a=b
 |[],_,_,_,h,_,_=>by cases h
 |x::l,hn,a,b,ha,hb,he=>by
  rw[List.map_cons,List.nodup_cons]at hn;rcases List.mem_cons.1 ha with e1|ha1
  ·rcases List.mem_cons.1 hb with e2|hb1
   ·rw[e1,e2]
   ·exact absurd (List.mem_map.2 ⟨b,hb1,by rw[<-he,e1]⟩) hn.1
  ·rcases List.mem_cons.1 hb with e2|hb1
   ·exact absurd (List.mem_map.2 ⟨a,ha1,by rw[he,e2]⟩) hn.1
   ·exact inj_nodup hn.2 ha1 hb1 he
section
variable {P:Program} {ops:Array Oper} {Q:Exit->Act->World->Prop} {md:Region.Mode} {S:World->Prop}
theorem wpAnyH_takeD{i d:Nat}{oi:Oper}{v:Value}{fuel:Nat}{listed:Array Bool}{a:Act}{w:World}(hi:ops[i]?=some oi)(hdst:oi.dst=some d)
 (hs:Region.noSelect ops=true) (hf:Region.free md ops listed i=true) (hr:(Region.ready md ops listed).contains i=true)
 (hQ:∀c a w,Q (.panic c) (a.put (some d) v) w->Q (.panic c) a w) (hy:YieldsIf P ops S oi v a) (hS:S w)
 (h:wpAnyH P md ops Q S fuel (listed.setIfInBounds i true) (a.put (some d) v) w):wpAnyH P md ops Q S (fuel+1) listed a w:=by
 rw[<-hdst]at hQ h;exact wpAnyH_take hi hs hf hr hQ hy hS h
end
end Go.Proofs.YtahmgjjgikgpoaaGreatDoor
namespace Go.Proofs.YtahmgjjgikgpoaaGreatDoor
open Go.Shelf
def Tryz.laysItoa_ren:Go.Shelf.Ren:=⟨fun|171=>38|243=>61|246=>87|283=>115|284=>116|285=>117|286=>118|129=>129|317=>128|318=>130|319=>131|320=>132|337=>138|338=>139|n=>n,fun|3=>3|9=>9|2=>2|4=>4|171=>222|0=>0|53=>223|37=>121|5=>5|173=>226|212=>240|51=>241|20=>20|213=>242|46=>243|232=>249|233=>250|n=>n,fun|17=>21|18=>23|19=>24|n=>n⟩
theorem Tryz.laysItoa:Go.Proofs.LaysM.n171 Tryz.prog Tryz.laysItoa_ren:={
 mixed:=by kernel_rfl
 f129:=Tryz.func129.trans (congrArg some (by kernel_rfl))
 f171:=Tryz.func38.trans (congrArg some (by kernel_rfl))
 f243:=Tryz.func61.trans (congrArg some (by kernel_rfl))
 f246:=Tryz.func87.trans (congrArg some (by kernel_rfl))
 f283:=Tryz.func115.trans (congrArg some (by kernel_rfl))
 f284:=Tryz.func116.trans (congrArg some (by kernel_rfl))
 f285:=Tryz.func117.trans (congrArg some (by kernel_rfl))
 f286:=Tryz.func118.trans (congrArg some (by kernel_rfl))
 f317:=Tryz.func128.trans (congrArg some (by kernel_rfl))
 f318:=Tryz.func130.trans (congrArg some (by kernel_rfl))
 f319:=Tryz.func131.trans (congrArg some (by kernel_rfl))
 f320:=Tryz.func132.trans (congrArg some (by kernel_rfl))
 f337:=Tryz.func138.trans (congrArg some (by kernel_rfl))
 f338:=Tryz.func139.trans (congrArg some (by kernel_rfl))
 t0:=Tryz.underlying0
 a0:=Tryz.isAgg0
 z0:=Tryz.sizeOf0
 v0:=Tryz.zeroValue0
 t2:=Tryz.underlying2
 a2:=Tryz.isAgg2
 z2:=Tryz.sizeOf2
 v2:=Tryz.zeroValue2
 t3:=Tryz.underlying3
 a3:=Tryz.isAgg3
 z3:=Tryz.sizeOf3
 v3:=Tryz.zeroValue3
 t4:=Tryz.underlying4
 a4:=Tryz.isAgg4
 z4:=Tryz.sizeOf4
 v4:=Tryz.zeroValue4
 t5:=Tryz.underlying5
 a5:=Tryz.isAgg5
 z5:=Tryz.sizeOf5
 v5:=Tryz.zeroValue5
 t9:=Tryz.underlying9
 a9:=Tryz.isAgg9
 z9:=Tryz.sizeOf9
 v9:=Tryz.zeroValue9
 t20:=Tryz.underlying20
 a20:=Tryz.isAgg20
 z20:=Tryz.sizeOf20
 v20:=Tryz.zeroValue20
 t37:=Tryz.underlying121
 a37:=Tryz.isAgg121
 z37:=Tryz.sizeOf121
 v37:=Tryz.zeroValue121
 t46:=Tryz.underlying243
 a46:=Tryz.isAgg243
 z46:=Tryz.sizeOf243
 v46:=Tryz.zeroValue243
 t51:=Tryz.underlying241
 a51:=Tryz.isAgg241
 z51:=Tryz.sizeOf241
 v51:=Tryz.zeroValue241
 t53:=Tryz.underlying223
 a53:=Tryz.isAgg223
 z53:=Tryz.sizeOf223
 v53:=Tryz.zeroValue223
 t171:=Tryz.underlying222
 a171:=Tryz.isAgg222
 z171:=Tryz.sizeOf222
 v171:=Tryz.zeroValue222
 t173:=Tryz.underlying226
 a173:=Tryz.isAgg226
 z173:=Tryz.sizeOf226
 v173:=Tryz.zeroValue226
 t212:=Tryz.underlying240
 a212:=Tryz.isAgg240
 z212:=Tryz.sizeOf240
 v212:=Tryz.zeroValue240
 t213:=Tryz.underlying242
 a213:=Tryz.isAgg242
 z213:=Tryz.sizeOf242
 t232:=Tryz.underlying249
 a232:=Tryz.isAgg249
 z232:=Tryz.sizeOf249
 v232:=Tryz.zeroValue249
 t233:=Tryz.underlying250
 a233:=Tryz.isAgg250
 z233:=Tryz.sizeOf250
 v233:=Tryz.zeroValue250
 g17:=by kernel_rfl
 g18:=by kernel_rfl
 g19:=by kernel_rfl
 i0:=by kernel_rfl
 i2:=by kernel_rfl
 i3:=by kernel_rfl
 i4:=by kernel_rfl
 i5:=by kernel_rfl
 i9:=by kernel_rfl
 i20:=by kernel_rfl
 i37:=by kernel_rfl
 i46:=by kernel_rfl
 i51:=by kernel_rfl
 i53:=by kernel_rfl
 i171:=by kernel_rfl
 i173:=by kernel_rfl
 i212:=by kernel_rfl
 i232:=by kernel_rfl
 i233:=by kernel_rfl
 m17:=by kernel_rfl
 m18:=by kernel_rfl
 m19:=by kernel_rfl}
theorem itoa_any(n:Int)(h0:-9223372036854775808<=n)(h1:n<=9223372036854775807)(w:World)(htab:Lib.TabIs Tryz.prog w "internal/strconv.uint64pow10" .u64 Lib.pow10Tab):
 Calls Tryz.prog 38 #[.int .i64 n] w λe w'=>e=.returned (.string ⟨(Lib.itoa n).toArray⟩)∧∃k os,w'=Sort.grow (w.drewN k) os:=Any.strconv_Itoa Tryz.laysItoa n h0 h1 w htab
end Go.Proofs.YtahmgjjgikgpoaaGreatDoor
