import Derived.WalkKit
import Derived.WalkSpells
import Derived.Lib.Bytealg
namespace Go.Proofs.YtlccndplhfcknaaGreatDoor
open Go.RowKit
structure LAlt where
 tag:Int
 «to»:Int
structure LIns where
 op:Int
 a:Int
 alts:List LAlt
structure LImp where
 name:ByteArray
 arity:Int
structure LGlob where
 name:ByteArray
 arity:Int
 exp:Bool
 code:List LIns
structure LObj where
 name:ByteArray
 imps:List LImp
 globs:List LGlob
def short(n:Nat):Prop:=n<140737488355328
theorem short.le{n:Nat}(h:short n):n<140737488355328:=h
def AltsAt(w:World)(v:Value)(l:List LAlt):Prop:=
 ∃p cap,v=.slice p l.length cap∧short l.length∧∀i (h:i<l.length),∃b o,p=some ⟨b,o,none⟩∧w.cell? ⟨b,o+i*2,none⟩=some (.int .i64 l[i].tag)∧w.cell? ⟨b,o+i*2+1,none⟩=some (.int .i64 l[i].to)
def CodeAt(w:World)(v:Value)(l:List LIns):Prop:=
 ∃p cap,v=.slice p l.length cap∧short l.length∧∀i (h:i<l.length),∃b o av,p=some ⟨b,o,none⟩∧w.cell? ⟨b,o+i*3,none⟩=some (.int .i64 l[i].op)∧w.cell? ⟨b,o+i*3+1,none⟩=some (.int .i64 l[i].a)∧w.cell? ⟨b,o+i*3+2,none⟩=some av∧AltsAt w av l[i].alts
def ImpsAt(w:World)(v:Value)(l:List LImp):Prop:=
 ∃p cap,v=.slice p l.length cap∧short l.length∧∀i (h:i<l.length),∃b o,p=some ⟨b,o,none⟩∧w.cell? ⟨b,o+i*2,none⟩=some (.string l[i].name)∧w.cell? ⟨b,o+i*2+1,none⟩=some (.int .i64 l[i].arity)∧l[i].name.size<=maxLen
def GlobsAt(w:World)(v:Value)(l:List LGlob):Prop:=
 ∃p cap,v=.slice p l.length cap∧short l.length∧∀i (h:i<l.length),∃b o cv,p=some ⟨b,o,none⟩∧w.cell? ⟨b,o+i*4,none⟩=some (.string l[i].name)∧w.cell? ⟨b,o+i*4+1,none⟩=some (.int .i64 l[i].arity)∧w.cell? ⟨b,o+i*4+2,none⟩=some (.bool l[i].exp)∧w.cell? ⟨b,o+i*4+3,none⟩=some cv∧CodeAt w cv l[i].code∧l[i].name.size<=maxLen
def ObjAt(w:World)(v:Value)(O:LObj):Prop:=
 ∃iv gv,v=.agg #[.string O.name,iv,gv]∧O.name.size<=maxLen∧ImpsAt w iv O.imps∧GlobsAt w gv O.globs
theorem cell_keep{w w':World}(hb:Below w.heap.size w w'){a:Addr}{v:Value}(h:w.cell? a=some v):w'.cell? a=some v:=by
 rw[hb.cell (block_lt_of_cell h)];exact h
theorem bcell{W w1:World}(hb:Below W.heap.size W w1):(∀b o,b<W.heap.size->w1.cell? ⟨b,o,none⟩=W.cell? ⟨b,o,none⟩)∧(∀b o,b<W.heap.size->w1.frozen? ⟨b,o,none⟩=W.frozen? ⟨b,o,none⟩):=
 ⟨λb o h=>hb.cell (p:=⟨b,o,none⟩) h,λb o h=>hb.frozen (p:=⟨b,o,none⟩) h⟩
theorem AltsAt.keep{w w':World}(hb:Below w.heap.size w w'){v:Value}{l:List LAlt}(h:AltsAt w v l):AltsAt w' v l:=by
 obtain⟨p,cap,e,hs,hc⟩:=h;refine⟨p,cap,e,hs,λi hi=>?_⟩;obtain⟨b,o,e2,h0,h1⟩:=hc i hi;exact⟨b,o,e2,cell_keep hb h0,cell_keep hb h1⟩
theorem CodeAt.keep{w w':World}(hb:Below w.heap.size w w'){v:Value}{l:List LIns}(h:CodeAt w v l):CodeAt w' v l:=by
 obtain⟨p,cap,e,hs,hc⟩:=h;refine⟨p,cap,e,hs,λi hi=>?_⟩;obtain⟨b,o,av,e2,h0,h1,h2,h3⟩:=hc i hi;exact⟨b,o,av,e2,cell_keep hb h0,cell_keep hb h1,cell_keep hb h2,h3.keep hb⟩
theorem ImpsAt.keep{w w':World}(hb:Below w.heap.size w w'){v:Value}{l:List LImp}(h:ImpsAt w v l):ImpsAt w' v l:=by
 obtain⟨p,cap,e,hs,hc⟩:=h;refine⟨p,cap,e,hs,λi hi=>?_⟩;obtain⟨b,o,e2,h0,h1,h2⟩:=hc i hi;exact⟨b,o,e2,cell_keep hb h0,cell_keep hb h1,h2⟩
theorem GlobsAt.keep{w w':World}(hb:Below w.heap.size w w'){v:Value}{l:List LGlob}(h:GlobsAt w v l):GlobsAt w' v l:=by
 obtain⟨p,cap,e,hs,hc⟩:=h;refine⟨p,cap,e,hs,λi hi=>?_⟩;obtain⟨b,o,cv,e2,h0,h1,h2,h3,h4,h5⟩:=hc i hi;exact⟨b,o,cv,e2,cell_keep hb h0,cell_keep hb h1,cell_keep hb h2,cell_keep hb h3,h4.keep hb,h5⟩
theorem ObjAt.keep{w w':World}(hb:Below w.heap.size w w'){v:Value}{O:LObj}(h:ObjAt w v O):ObjAt w' v O:=by
 obtain⟨iv,gv,e,hn,hi,hg⟩:=h;exact⟨iv,gv,e,hn,hi.keep hb,hg.keep hb⟩
def AltsIn(w:World)(p:Option Addr)(l:List LAlt):Prop:=
 ∀i (h:i<l.length),∃b o,p=some ⟨b,o,none⟩∧w.cell? ⟨b,o+i*2,none⟩=some (.int .i64 l[i].tag)∧w.cell? ⟨b,o+i*2+1,none⟩=some (.int .i64 l[i].to)
def CodeIn(w:World)(p:Option Addr)(l:List LIns):Prop:=
 ∀i (h:i<l.length),∃b o ap an ac,p=some ⟨b,o,none⟩∧w.cell? ⟨b,o+i*3,none⟩=some (.int .i64 l[i].op)∧w.cell? ⟨b,o+i*3+1,none⟩=some (.int .i64 l[i].a)∧w.cell? ⟨b,o+i*3+2,none⟩=some (.slice ap an ac)∧AltsAt w (.slice ap an ac) l[i].alts
def ImpsIn(w:World)(p:Option Addr)(l:List LImp):Prop:=
 ∀i (h:i<l.length),∃b o,p=some ⟨b,o,none⟩∧w.cell? ⟨b,o+i*2,none⟩=some (.string l[i].name)∧w.cell? ⟨b,o+i*2+1,none⟩=some (.int .i64 l[i].arity)∧l[i].name.size<=maxLen
def GlobsIn(w:World)(p:Option Addr)(l:List LGlob):Prop:=
 ∀i (h:i<l.length),∃b o cp cn cc,p=some ⟨b,o,none⟩∧w.cell? ⟨b,o+i*4,none⟩=some (.string l[i].name)∧w.cell? ⟨b,o+i*4+1,none⟩=some (.int .i64 l[i].arity)∧w.cell? ⟨b,o+i*4+2,none⟩=some (.bool l[i].exp)∧w.cell? ⟨b,o+i*4+3,none⟩=some (.slice cp cn cc)∧CodeAt w (.slice cp cn cc) l[i].code∧l[i].name.size<=maxLen
theorem AltsAt.open{w:World}{v:Value}{l:List LAlt}(h:AltsAt w v l):∃p cap,v=.slice p l.length cap∧l.length<140737488355328∧∀w',Below w.heap.size w w'->AltsIn w' p l:=by
 obtain⟨p,cap,e,hs,hc⟩:=h;refine⟨p,cap,e,hs.le,λw' hb i hi=>?_⟩;obtain⟨b,o,e2,h0,h1⟩:=hc i hi;exact⟨b,o,e2,cell_keep hb h0,cell_keep hb h1⟩
theorem CodeAt.open{w:World}{v:Value}{l:List LIns}(h:CodeAt w v l):∃p cap,v=.slice p l.length cap∧l.length<140737488355328∧∀w',Below w.heap.size w w'->CodeIn w' p l:=by
 obtain⟨p,cap,e,hs,hc⟩:=h;refine⟨p,cap,e,hs.le,λw' hb i hi=>?_⟩;obtain⟨b,o,av,e2,h0,h1,h2,h3⟩:=hc i hi;obtain⟨ap,ac,rfl,-,-⟩:=id h3;exact⟨b,o,ap,_,ac,e2,cell_keep hb h0,cell_keep hb h1,cell_keep hb h2,h3.keep hb⟩
theorem ImpsAt.open{w:World}{v:Value}{l:List LImp}(h:ImpsAt w v l):∃p cap,v=.slice p l.length cap∧l.length<140737488355328∧∀w',Below w.heap.size w w'->ImpsIn w' p l:=by
 obtain⟨p,cap,e,hs,hc⟩:=h;refine⟨p,cap,e,hs.le,λw' hb i hi=>?_⟩;obtain⟨b,o,e2,h0,h1,h2⟩:=hc i hi;exact⟨b,o,e2,cell_keep hb h0,cell_keep hb h1,h2⟩
theorem GlobsAt.open{w:World}{v:Value}{l:List LGlob}(h:GlobsAt w v l):∃p cap,v=.slice p l.length cap∧l.length<140737488355328∧∀w',Below w.heap.size w w'->GlobsIn w' p l:=by
 obtain⟨p,cap,e,hs,hc⟩:=h;refine⟨p,cap,e,hs.le,λw' hb i hi=>?_⟩;obtain⟨b,o,cv,e2,h0,h1,h2,h3,h4,h5⟩:=hc i hi;obtain⟨cp,cc,rfl,-,-⟩:=id h4;exact⟨b,o,cp,_,cc,e2,cell_keep hb h0,cell_keep hb h1,cell_keep hb h2,cell_keep hb h3,h4.keep hb,h5⟩
def rowsTab:List Int:=[1,0,0,0,0,1,0,
 2,0,65535,0,0,1,0,
 2,0,1000,1,1,1,0,
 0,0,0,2,0,-1,0,
 2,0,1000,1,1,0,-1,
 2,0,1000,2,1,-1,0,
 2,0,1000,0,1,0,-1,
 2,1,1000,0,0,0,1,
 0,0,0,1,0,0,0,
 0,0,0,2,0,-1,0,
 0,0,0,2,0,-1,0,
 0,0,0,2,0,-1,0,
 0,0,0,2,0,-1,0,
 0,0,0,2,0,-1,0,
 0,0,0,2,0,-1,0,
 2,0,65535,0,1,1,-1,
 2,0,255,1,0,-1,1,
 3,0,0,1,0,0,0,
 2,0,65535,0,0,0,0,
 0,0,0,1,0,0,0,
 0,0,0,0,0,0,0]
def rowN(k j:Nat):Int:=rowsTab.getD (k*7+j) 0
def TabAt(w:World):Prop:=∀i,i<147->w.cell? ⟨20,i,none⟩=some (.int .i64 (rowsTab.getD i 0))
theorem TabAt.keep{w w':World}(hb:Below w.heap.size w w')(h:TabAt w):TabAt w':=λi hi=>cell_keep hb (h i hi)
theorem TabAt.row{w:World}(h:TabAt w)(k j:Nat)(hk:k<21)(hj:j<7):w.cell? ⟨20,k*7+j,none⟩=some (.int .i64 (rowN k j)):=h _ (by omega)
def cmpB(a b:ByteArray):Int:=Lib.compareBytes a.data.toList b.data.toList
def gtB(a b:ByteArray):Bool:=!(Op.bytesLess a.toList b.toList||a.toList==b.toList)
theorem cmp_lt:∀x y:List UInt8,Lib.compareBytes x y<0↔Op.bytesLess x y=true
 |[],[]=>by simp[Lib.compareBytes,Op.bytesLess]
 |[],_::_=>by simp[Lib.compareBytes,Op.bytesLess]
 |_::_,[]=>by simp[Lib.compareBytes,Op.bytesLess]
 |a::x,b::y=>by
  have ih:=cmp_lt x y;simp only[Lib.compareBytes,Op.bytesLess];by_cases h1:a<b
  ·simp[h1]
  ·by_cases h2:b<a
   ·have h3:a≠b:=by rintro rfl;exact h1 h2
    simp[h1,h2,h3]
   ·have h3:a=b:=UInt8.le_antisymm (UInt8.not_lt.1 h2) (UInt8.not_lt.1 h1);subst h3;simp[h1,ih]
theorem cmp_eq0:∀x y:List UInt8,Lib.compareBytes x y=0↔x=y
 |[],[]=>by simp[Lib.compareBytes]
 |[],_::_=>by simp[Lib.compareBytes]
 |_::_,[]=>by simp[Lib.compareBytes]
 |a::x,b::y=>by
  have ih:=cmp_eq0 x y;simp only[Lib.compareBytes];by_cases h1:a<b
  ·have h3:a≠b:=by rintro rfl;exact UInt8.lt_irrefl _ h1
   simp[h1,h3]
  ·by_cases h2:b<a
   ·have h3:a≠b:=by rintro rfl;exact h1 h2
    simp[h1,h2,h3]
   ·have h3:a=b:=UInt8.le_antisymm (UInt8.not_lt.1 h2) (UInt8.not_lt.1 h1);subst h3;simp[h1,ih]
theorem cmp_swap:∀x y:List UInt8,Lib.compareBytes x y=-Lib.compareBytes y x
 |[],[]=>by simp[Lib.compareBytes]
 |[],_::_=>by simp[Lib.compareBytes]
 |_::_,[]=>by simp[Lib.compareBytes]
 |a::x,b::y=>by
  have ih:=cmp_swap x y;simp only[Lib.compareBytes];by_cases h1:a<b
  ·have h2:¬b<a:=λh=>UInt8.lt_irrefl _ (UInt8.lt_trans h h1);simp[h1,h2]
  ·by_cases h2:b<a
   ·simp[h1,h2]
   ·simp[h1,h2,ih]
theorem less_trans:∀x y z:List UInt8,Op.bytesLess x y=true->Op.bytesLess y z=true->Op.bytesLess x z=true
 |_,[],z=>by simp[Op.bytesLess]
 |[],b::y,[]=>by simp[Op.bytesLess]
 |[],b::y,c::z=>by simp[Op.bytesLess]
 |a::x,b::y,[]=>by simp[Op.bytesLess]
 |a::x,b::y,c::z=>by
  have ih:=less_trans x y z;simp only[Op.bytesLess,Bool.or_eq_true,Bool.and_eq_true,decide_eq_true_eq,beq_iff_eq];rintro(h1|⟨rfl,h1⟩) (h2|⟨rfl,h2⟩)
  ·exact Or.inl (UInt8.lt_trans h1 h2)
  ·exact Or.inl h1
  ·exact Or.inl h2
  ·exact Or.inr ⟨rfl,ih h1 h2⟩
theorem gtB_iff(a b:ByteArray):gtB a b=true↔cmpB b a<0:=by
 unfold gtB cmpB;rw[cmp_swap,ByteArray.toList_eq,ByteArray.toList_eq];have h1:=cmp_lt a.data.toList b.data.toList;have h2:=cmp_eq0 a.data.toList b.data.toList;simp only[Bool.not_eq_true',Bool.or_eq_false_iff,beq_eq_false_iff_ne];constructor
 ·rintro⟨h3,h4⟩;have:¬Lib.compareBytes a.data.toList b.data.toList<0:=by rw[h1,h3];simp
  have:¬Lib.compareBytes a.data.toList b.data.toList=0:=by rw[h2];exact h4
  omega
 ·intro h;exact⟨by rw[Bool.eq_false_iff];intro h3;have:=h1.2 h3;omega,λh3=>by have:=h2.2 h3;omega⟩
theorem cmpB_trans{a b c:ByteArray}(h1:cmpB a b<0)(h2:cmpB b c<0):cmpB a c<0:=by
 unfold cmpB at*;rw[cmp_lt]at*;exact less_trans _ _ _ h1 h2
theorem cmpB_eq0(a b:ByteArray):cmpB a b=0↔a=b:=by
 unfold cmpB;rw[cmp_eq0];constructor
 ·intro h;obtain⟨⟨x⟩⟩:=a;obtain⟨⟨y⟩⟩:=b;simp at h;rw[h]
 ·rintro rfl;rfl
theorem le_eq(a b:ByteArray):(Op.bytesLess a.toList b.toList||a.toList==b.toList)=!gtB a b:=by simp[gtB]
def Rising(l:List LImp):Prop:=∀i j (hi:i<l.length) (hj:j<l.length),i<j->cmpB l[i].name l[j].name<0
def hasN(l:List LImp)(n:ByteArray):Bool:=l.any λx=>decide (cmpB x.name n=0)
theorem hasN_true(l:List LImp)(n:ByteArray)(k:Nat)(hk:k<l.length)(h:cmpB l[k].name n=0):hasN l n=true:=by
 simp only[hasN,List.any_eq_true];exact⟨_,List.getElem_mem hk,by simpa using h⟩
theorem hasN_false(l:List LImp)(n:ByteArray)(h:∀k (hk:k<l.length),cmpB l[k].name n≠0):hasN l n=false:=by
 simp only[hasN,List.any_eq_false];intro x hx;obtain⟨i,hi,rfl⟩:=List.mem_iff_getElem.1 hx;simpa using h i hi
def Sides(l:List LImp)(n:ByteArray)(i j:Nat):Prop:=(∀a (h:a<l.length),a<i->cmpB l[a].name n<0)∧∀a (h:a<l.length),j<=a->¬cmpB l[a].name n<0
theorem Sides.left{l:List LImp}{n:ByteArray}{i j h:Nat}(hr:Rising l)(hh:h<l.length)(hs:Sides l n i j)(hc:cmpB l[h].name n<0):Sides l n (h+1) j:=by
 refine⟨λa ha hah=>?_,hs.2⟩;by_cases e:a=h
 ·subst e;exact hc
 ·exact cmpB_trans (hr a h ha hh (by omega)) hc
theorem Sides.right{l:List LImp}{n:ByteArray}{i j h:Nat}(hr:Rising l)(hh:h<l.length)(hs:Sides l n i j)(hc:¬cmpB l[h].name n<0):Sides l n i h:=by
 refine⟨hs.1,λa ha hah hlt=>?_⟩;by_cases e:h=a
 ·subst e;exact hc hlt
 ·exact hc (cmpB_trans (hr h a hh ha (by omega)) hlt)
theorem Sides.found{l:List LImp}{n:ByteArray}{i:Nat}(hr:Rising l)(hi:i<l.length)(hs:Sides l n i i):hasN l n=(cmpB l[i].name n==0):=by
 by_cases h:cmpB l[i].name n=0
 ·rw[hasN_true l n i hi h];simp[h]
 ·rw[hasN_false l n ?_]
  ·simp[h]
  ·intro k hk hz;have h1:=hs.2 i hi (Nat.le_refl _);by_cases hki:k<i
   ·have:=hs.1 k hk hki;omega
   ·by_cases e:k=i
    ·subst e;exact h hz
    ·have h2:=hr i k hi hk (by omega);rw[(cmpB_eq0 _ _).1 hz]at h2;omega
theorem Sides.none{l:List LImp}{n:ByteArray}{i:Nat}(hi:¬i<l.length)(hs:Sides l n i i):hasN l n=false:=
 hasN_false l n λk hk=>by have:=hs.1 k hk (by omega);omega
end Go.Proofs.YtlccndplhfcknaaGreatDoor
