import Derived.WalkKit
import Derived.WalkSpells
import Derived.Lib.Bytealg
import Derived.Shelf.SlGeneric
import Derived.Ground.NamesProg
import Derived.Ground.SlgfProg
import Derived.Shelf.Strings.Search3
import Derived.Shelf.Strings.Prefix
import Derived.Shelf.Strconv.ParseIntPublic10
import Derived.Shelf.SlicesQ.IndexFunc
import Derived.Test.YtcpcplaeaimmpaaGreatDoorProg
import Derived.Deep.RegionHeld3
import Derived.StillTail
namespace Go.Proofs.YtcpcplaeaimmpaaGreatDoor
open Go.RowKit
structure LAlt where
 tag:Int
 «to»:Int
structure LIns where
 op:Int
 a:Int
 alts:List LAlt
structure LImp where
 name:ByteArray
 arity:Int
structure LGlob where
 name:ByteArray
 arity:Int
 exp:Bool
 code:List LIns
structure LObj where
 name:ByteArray
 imps:List LImp
 globs:List LGlob
def short(n:Nat):Prop:=n<140737488355328
theorem short.le{n:Nat}(h:short n):n<140737488355328:=h
def AltsAt(w:World)(v:Value)(l:List LAlt):Prop:=
 ∃p cap,v=.slice p l.length cap∧short l.length∧∀i (h:i<l.length),∃b o,p=some ⟨b,o,none⟩∧w.cell? ⟨b,o+i*2,none⟩=some (.int .i64 l[i].tag)∧w.cell? ⟨b,o+i*2+1,none⟩=some (.int .i64 l[i].to)
def CodeAt(w:World)(v:Value)(l:List LIns):Prop:=
 ∃p cap,v=.slice p l.length cap∧short l.length∧∀i (h:i<l.length),∃b o av,p=some ⟨b,o,none⟩∧w.cell? ⟨b,o+i*3,none⟩=some (.int .i64 l[i].op)∧w.cell? ⟨b,o+i*3+1,none⟩=some (.int .i64 l[i].a)∧w.cell? ⟨b,o+i*3+2,none⟩=some av∧AltsAt w av l[i].alts
def ImpsAt(w:World)(v:Value)(l:List LImp):Prop:=
 ∃p cap,v=.slice p l.length cap∧short l.length∧∀i (h:i<l.length),∃b o,p=some ⟨b,o,none⟩∧w.cell? ⟨b,o+i*2,none⟩=some (.string l[i].name)∧w.cell? ⟨b,o+i*2+1,none⟩=some (.int .i64 l[i].arity)∧l[i].name.size<=maxLen
def GlobsAt(w:World)(v:Value)(l:List LGlob):Prop:=
 ∃p cap,v=.slice p l.length cap∧short l.length∧∀i (h:i<l.length),∃b o cv,p=some ⟨b,o,none⟩∧w.cell? ⟨b,o+i*4,none⟩=some (.string l[i].name)∧w.cell? ⟨b,o+i*4+1,none⟩=some (.int .i64 l[i].arity)∧w.cell? ⟨b,o+i*4+2,none⟩=some (.bool l[i].exp)∧w.cell? ⟨b,o+i*4+3,none⟩=some cv∧CodeAt w cv l[i].code∧l[i].name.size<=maxLen
def ObjAt(w:World)(v:Value)(O:LObj):Prop:=
 ∃iv gv,v=.agg #[.string O.name,iv,gv]∧O.name.size<=maxLen∧ImpsAt w iv O.imps∧GlobsAt w gv O.globs
theorem cell_keep{w w':World}(hb:Below w.heap.size w w'){a:Addr}{v:Value}(h:w.cell? a=some v):w'.cell? a=some v:=by
 rw[hb.cell (block_lt_of_cell h)];exact h
theorem bcell{W w1:World}(hb:Below W.heap.size W w1):(∀b o,b<W.heap.size->w1.cell? ⟨b,o,none⟩=W.cell? ⟨b,o,none⟩)∧(∀b o,b<W.heap.size->w1.frozen? ⟨b,o,none⟩=W.frozen? ⟨b,o,none⟩):=
 ⟨λb o h=>hb.cell (p:=⟨b,o,none⟩) h,λb o h=>hb.frozen (p:=⟨b,o,none⟩) h⟩
theorem AltsAt.keep{w w':World}(hb:Below w.heap.size w w'){v:Value}{l:List LAlt}(h:AltsAt w v l):AltsAt w' v l:=by
 obtain⟨p,cap,e,hs,hc⟩:=h;refine⟨p,cap,e,hs,λi hi=>?_⟩;obtain⟨b,o,e2,h0,h1⟩:=hc i hi;exact⟨b,o,e2,cell_keep hb h0,cell_keep hb h1⟩
theorem CodeAt.keep{w w':World}(hb:Below w.heap.size w w'){v:Value}{l:List LIns}(h:CodeAt w v l):CodeAt w' v l:=by
 obtain⟨p,cap,e,hs,hc⟩:=h;refine⟨p,cap,e,hs,λi hi=>?_⟩;obtain⟨b,o,av,e2,h0,h1,h2,h3⟩:=hc i hi;exact⟨b,o,av,e2,cell_keep hb h0,cell_keep hb h1,cell_keep hb h2,h3.keep hb⟩
theorem ImpsAt.keep{w w':World}(hb:Below w.heap.size w w'){v:Value}{l:List LImp}(h:ImpsAt w v l):ImpsAt w' v l:=by
 obtain⟨p,cap,e,hs,hc⟩:=h;refine⟨p,cap,e,hs,λi hi=>?_⟩;obtain⟨b,o,e2,h0,h1,h2⟩:=hc i hi;exact⟨b,o,e2,cell_keep hb h0,cell_keep hb h1,h2⟩
theorem GlobsAt.keep{w w':World}(hb:Below w.heap.size w w'){v:Value}{l:List LGlob}(h:GlobsAt w v l):GlobsAt w' v l:=by
 obtain⟨p,cap,e,hs,hc⟩:=h;refine⟨p,cap,e,hs,λi hi=>?_⟩;obtain⟨b,o,cv,e2,h0,h1,h2,h3,h4,h5⟩:=hc i hi;exact⟨b,o,cv,e2,cell_keep hb h0,cell_keep hb h1,cell_keep hb h2,cell_keep hb h3,h4.keep hb,h5⟩
theorem ObjAt.keep{w w':World}(hb:Below w.heap.size w w'){v:Value}{O:LObj}(h:ObjAt w v O):ObjAt w' v O:=by
 obtain⟨iv,gv,e,hn,hi,hg⟩:=h;exact⟨iv,gv,e,hn,hi.keep hb,hg.keep hb⟩
def AltsIn(w:World)(p:Option Addr)(l:List LAlt):Prop:=
 ∀i (h:i<l.length),∃b o,p=some ⟨b,o,none⟩∧w.cell? ⟨b,o+i*2,none⟩=some (.int .i64 l[i].tag)∧w.cell? ⟨b,o+i*2+1,none⟩=some (.int .i64 l[i].to)
def CodeIn(w:World)(p:Option Addr)(l:List LIns):Prop:=
 ∀i (h:i<l.length),∃b o ap an ac,p=some ⟨b,o,none⟩∧w.cell? ⟨b,o+i*3,none⟩=some (.int .i64 l[i].op)∧w.cell? ⟨b,o+i*3+1,none⟩=some (.int .i64 l[i].a)∧w.cell? ⟨b,o+i*3+2,none⟩=some (.slice ap an ac)∧AltsAt w (.slice ap an ac) l[i].alts
def ImpsIn(w:World)(p:Option Addr)(l:List LImp):Prop:=
 ∀i (h:i<l.length),∃b o,p=some ⟨b,o,none⟩∧w.cell? ⟨b,o+i*2,none⟩=some (.string l[i].name)∧w.cell? ⟨b,o+i*2+1,none⟩=some (.int .i64 l[i].arity)∧l[i].name.size<=maxLen
def GlobsIn(w:World)(p:Option Addr)(l:List LGlob):Prop:=
 ∀i (h:i<l.length),∃b o cp cn cc,p=some ⟨b,o,none⟩∧w.cell? ⟨b,o+i*4,none⟩=some (.string l[i].name)∧w.cell? ⟨b,o+i*4+1,none⟩=some (.int .i64 l[i].arity)∧w.cell? ⟨b,o+i*4+2,none⟩=some (.bool l[i].exp)∧w.cell? ⟨b,o+i*4+3,none⟩=some (.slice cp cn cc)∧CodeAt w (.slice cp cn cc) l[i].code∧l[i].name.size<=maxLen
theorem AltsAt.open{w:World}{v:Value}{l:List LAlt}(h:AltsAt w v l):∃p cap,v=.slice p l.length cap∧l.length<140737488355328∧∀w',Below w.heap.size w w'->AltsIn w' p l:=by
 obtain⟨p,cap,e,hs,hc⟩:=h;refine⟨p,cap,e,hs.le,λw' hb i hi=>?_⟩;obtain⟨b,o,e2,h0,h1⟩:=hc i hi;exact⟨b,o,e2,cell_keep hb h0,cell_keep hb h1⟩
theorem CodeAt.open{w:World}{v:Value}{l:List LIns}(h:CodeAt w v l):∃p cap,v=.slice p l.length cap∧l.length<140737488355328∧∀w',Below w.heap.size w w'->CodeIn w' p l:=by
 obtain⟨p,cap,e,hs,hc⟩:=h;refine⟨p,cap,e,hs.le,λw' hb i hi=>?_⟩;obtain⟨b,o,av,e2,h0,h1,h2,h3⟩:=hc i hi;obtain⟨ap,ac,rfl,-,-⟩:=id h3;exact⟨b,o,ap,_,ac,e2,cell_keep hb h0,cell_keep hb h1,cell_keep hb h2,h3.keep hb⟩
theorem ImpsAt.open{w:World}{v:Value}{l:List LImp}(h:ImpsAt w v l):∃p cap,v=.slice p l.length cap∧l.length<140737488355328∧∀w',Below w.heap.size w w'->ImpsIn w' p l:=by
 obtain⟨p,cap,e,hs,hc⟩:=h;refine⟨p,cap,e,hs.le,λw' hb i hi=>?_⟩;obtain⟨b,o,e2,h0,h1,h2⟩:=hc i hi;exact⟨b,o,e2,cell_keep hb h0,cell_keep hb h1,h2⟩
theorem GlobsAt.open{w:World}{v:Value}{l:List LGlob}(h:GlobsAt w v l):∃p cap,v=.slice p l.length cap∧l.length<140737488355328∧∀w',Below w.heap.size w w'->GlobsIn w' p l:=by
 obtain⟨p,cap,e,hs,hc⟩:=h;refine⟨p,cap,e,hs.le,λw' hb i hi=>?_⟩;obtain⟨b,o,cv,e2,h0,h1,h2,h3,h4,h5⟩:=hc i hi;obtain⟨cp,cc,rfl,-,-⟩:=id h4;exact⟨b,o,cp,_,cc,e2,cell_keep hb h0,cell_keep hb h1,cell_keep hb h2,cell_keep hb h3,h4.keep hb,h5⟩
def rowsTab:List Int:=[1,0,0,0,0,1,0,
 2,0,65535,0,0,1,0,
 2,0,1000,1,1,1,0,
 0,0,0,2,0,-1,0,
 2,0,1000,1,1,0,-1,
 2,0,1000,2,1,-1,0,
 2,0,1000,0,1,0,-1,
 2,1,1000,0,0,0,1,
 0,0,0,1,0,0,0,
 0,0,0,2,0,-1,0,
 0,0,0,2,0,-1,0,
 0,0,0,2,0,-1,0,
 0,0,0,2,0,-1,0,
 0,0,0,2,0,-1,0,
 0,0,0,2,0,-1,0,
 2,0,65535,0,1,1,-1,
 2,0,255,1,0,-1,1,
 3,0,0,1,0,0,0,
 2,0,65535,0,0,0,0,
 0,0,0,1,0,0,0,
 0,0,0,0,0,0,0]
def rowN(k j:Nat):Int:=rowsTab.getD (k*7+j) 0
def TabAt(w:World):Prop:=∀i,i<147->w.cell? ⟨20,i,none⟩=some (.int .i64 (rowsTab.getD i 0))
theorem TabAt.keep{w w':World}(hb:Below w.heap.size w w')(h:TabAt w):TabAt w':=λi hi=>cell_keep hb (h i hi)
theorem TabAt.row{w:World}(h:TabAt w)(k j:Nat)(hk:k<21)(hj:j<7):w.cell? ⟨20,k*7+j,none⟩=some (.int .i64 (rowN k j)):=h _ (by omega)
end Go.Proofs.YtcpcplaeaimmpaaGreatDoor
namespace Go.Proofs.YtcpcplaeaimmpaaGreatDoor
def cP:BitVec 32:=0x04C11DB7#32
def cPr:BitVec 32:=0xEDB88320#32
def cT(r:BitVec 32):BitVec 32:=(r<<<1) ^^^ (if r.getLsbD 31 then cP else 0#32)
def cR(r:BitVec 32):BitVec 32:=(r>>>1) ^^^ (if r.getLsbD 0 then cPr else 0#32)
def cB(b:Bool):BitVec 32:=if b then 1#32 else 0#32
theorem cP_rev:∀i,i<32->cPr.getLsbD i=cP.getLsbD (31-i):=by decide
theorem ite_bit(c:Bool)(x:BitVec 32)(i:Nat):(if c then x else 0#32).getLsbD i=(c && x.getLsbD i):=by cases c<;>simp
theorem cT_bit(r:BitVec 32)(i:Nat)(hi:i<32):(cT r).getLsbD i=((decide (0<i) && r.getLsbD (i-1)) ^^ (r.getLsbD 31 && cP.getLsbD i)):=by
 unfold cT;rw[BitVec.getLsbD_xor,ite_bit,BitVec.getLsbD_shiftLeft];by_cases h:0<i
 ·simp[hi,h,show ¬i<1 by omega]
 ·simp[show i=0 by omega]
theorem cR_bit(r:BitVec 32)(i:Nat):(cR r).getLsbD i=(r.getLsbD (1+i) ^^ (r.getLsbD 0 && cPr.getLsbD i)):=by
 unfold cR;rw[BitVec.getLsbD_xor,ite_bit,BitVec.getLsbD_ushiftRight]
theorem cT_xor(a b:BitVec 32):cT (a ^^^ b)=cT a ^^^ cT b:=by
 apply BitVec.eq_of_getLsbD_eq;intro i hi;rw[BitVec.getLsbD_xor,cT_bit _ _ hi,cT_bit _ _ hi,cT_bit _ _ hi,BitVec.getLsbD_xor,BitVec.getLsbD_xor];cases a.getLsbD 31<;>cases b.getLsbD 31<;>cases cP.getLsbD i<;>cases a.getLsbD (i-1)<;>cases b.getLsbD (i-1)<;>cases decide (0<i)<;>rfl
theorem cR_xor(a b:BitVec 32):cR (a ^^^ b)=cR a ^^^ cR b:=by
 apply BitVec.eq_of_getLsbD_eq;intro i hi;rw[BitVec.getLsbD_xor,cR_bit,cR_bit,cR_bit,BitVec.getLsbD_xor,BitVec.getLsbD_xor];cases a.getLsbD 0<;>cases b.getLsbD 0<;>cases cPr.getLsbD i<;>cases a.getLsbD (1+i)<;>cases b.getLsbD (1+i)<;>rfl
theorem cT_zero:cT 0#32=0#32:=by decide
theorem rev_bit(r:BitVec 32)(i:Nat)(hi:i<32):r.reverse.getLsbD i=r.getLsbD (31-i):=by
 rw[BitVec.getLsbD_reverse,BitVec.getMsbD];simp[hi]
theorem cR_rev(c:BitVec 32):(cR c).reverse=cT c.reverse:=by
 apply BitVec.eq_of_getLsbD_eq;intro i hi;rw[rev_bit _ _ hi,cR_bit,cT_bit _ _ hi,rev_bit _ 31 (by omega),cP_rev _ (by omega),show 31-(31-i)=i by omega,show 31-31=0 from rfl];by_cases h:0<i
 ·rw[rev_bit _ (i-1) (by omega),show 31-(i-1)=1+(31-i) by omega];simp[h]
 ·obtain rfl:i=0:=by omega
  simp
theorem rev_xor(a b:BitVec 32):(a ^^^ b).reverse=a.reverse ^^^ b.reverse:=by
 apply BitVec.eq_of_getLsbD_eq;intro i hi;rw[BitVec.getLsbD_xor,rev_bit _ _ hi,rev_bit _ _ hi,rev_bit _ _ hi,BitVec.getLsbD_xor]
def mBit(s:List UInt8)(k:Nat):Bool:=decide (k<8*s.length) && (s.getD (k / 8) 0).toNat.testBit (k % 8)
def regB(s:List UInt8):Nat->BitVec 32
 |0=>0xFFFFFFFF#32
 |k+1=>cT (regB s k) ^^^ (if mBit s k then cP else 0#32)
def iterR:Nat->BitVec 32->BitVec 32
 |0,r=>r
 |n+1,r=>cR (iterR n r)
def regP(s:List UInt8):Nat->BitVec 32
 |0=>0xFFFFFFFF#32
 |i+1=>iterR 8 (regP s i ^^^ BitVec.ofNat 32 (s.getD i 0).toNat)
def stepB(c:BitVec 32)(b:Nat):Nat->BitVec 32
 |0=>c
 |j+1=>cR (stepB c b j ^^^ cB (b.testBit j))
theorem cR_shl(z:BitVec 32)(hz:z.getLsbD 31=false):cR (z<<<1)=z:=by
 apply BitVec.eq_of_getLsbD_eq;intro i hi;rw[cR_bit,BitVec.getLsbD_shiftLeft,BitVec.getLsbD_shiftLeft];by_cases h:i=31
 ·subst h;rw[hz];simp
 ·simp[show 1+i<32 by omega,show 1+i-1=i by omega]
theorem split_bit(n:Nat):BitVec.ofNat 32 n=cB (n.testBit 0) ^^^ (BitVec.ofNat 32 (n / 2)<<<1):=by
 apply BitVec.eq_of_getLsbD_eq;intro i hi;rw[BitVec.getLsbD_xor,BitVec.getLsbD_shiftLeft,BitVec.getLsbD_ofNat,BitVec.getLsbD_ofNat];have h1:(cB (n.testBit 0)).getLsbD i=(n.testBit 0 && decide (i=0)):=by
  unfold cB;split
  ·rename_i h;rw[h];simp[BitVec.getLsbD_one]
  ·rename_i h;simp at h;simp[h]
 rw[h1];by_cases h:i=0
 ·subst h;simp
 ·obtain⟨k,rfl⟩:∃k,i=k+1:=⟨i-1,by omega⟩;simp[hi,Nat.testBit_succ,show k<32 by omega]
theorem iterR_step(c:BitVec 32)(b:Nat)(hb:b<256):∀j,iterR j (c ^^^ BitVec.ofNat 32 b)=stepB c b j ^^^ BitVec.ofNat 32 (b / 2 ^ j)
 |0=>by simp[iterR,stepB]
 |j+1=>by
  simp only[iterR,stepB];rw[iterR_step c b hb j,split_bit (b / 2 ^ j),<-BitVec.xor_assoc,cR_xor,cR_shl,Nat.div_div_eq_div_mul,<-Nat.pow_succ]
  ·congr 3
   simp[Nat.testBit,Nat.shiftRight_eq_div_pow]
  ·rw[BitVec.getLsbD_ofNat,Nat.div_div_eq_div_mul,<-Nat.pow_succ];have:b / 2 ^ (j+1)<2 ^ 31:=Nat.lt_of_le_of_lt (Nat.div_le_self _ _) (by omega);simp[Nat.testBit_lt_two_pow this]
theorem rev_cB(b:Bool):cT (cB b).reverse=if b then cP else 0#32:=by
 cases b
 ·have:(cB false).reverse=0#32:=by
   apply BitVec.eq_of_getLsbD_eq;intro i hi;rw[rev_bit _ _ hi];simp[cB]
  rw[this];exact cT_zero
 ·have:(cB true).reverse=0x80000000#32:=by
   apply BitVec.eq_of_getLsbD_eq;intro i hi;rw[rev_bit _ _ hi];revert i;decide
  rw[this];decide
theorem stepB_reg(s:List UInt8)(i:Nat)(hi:i<s.length)(c:BitVec 32)(hc:c.reverse=regB s (8*i)):∀j,j<=8->(stepB c (s.getD i 0).toNat j).reverse=regB s (8*i+j)
 |0,_=>hc
 |j+1,hj=>by
  rw[<-Nat.add_assoc];simp only[stepB,regB];rw[cR_rev,rev_xor,cT_xor,stepB_reg s i hi c hc j (by omega),rev_cB];have:mBit s (8*i+j)=(s.getD i 0).toNat.testBit j:=by
   unfold mBit;rw[show(8*i+j) / 8=i by omega,show(8*i+j) % 8=j by omega];simp[show 8*i+j<8*s.length by omega]
  rw[this]
theorem regP_reg(s:List UInt8):∀i,i<=s.length->(regP s i).reverse=regB s (8*i)
 |0,_=>by
  apply BitVec.eq_of_getLsbD_eq;intro i hi;rw[rev_bit _ _ hi];simp only[regP,regB];revert i;decide
 |i+1,hi=>by
  simp only[regP];have hb:(s.getD i 0).toNat<256:=(s.getD i 0).toNat_lt;rw[iterR_step _ _ hb 8,show(s.getD i 0).toNat / 2 ^ 8=0 by omega];have:=stepB_reg s i (by omega) _ (regP_reg s i (by omega)) 8 (by omega);simpa[Nat.mul_add]using this
theorem prog_step(c:BitVec 32):(cR c).toNat=if c.toNat % 2=1 then (c.toNat / 2) ^^^ 3988292384 else c.toNat / 2:=by
 unfold cR;have h0:c.getLsbD 0=decide (c.toNat % 2=1):=by rw[BitVec.getLsbD,Nat.testBit_zero]
 rw[BitVec.toNat_xor,BitVec.toNat_ushiftRight,h0,Nat.shiftRight_eq_div_pow];by_cases h:c.toNat % 2=1
 ·simp only[h,decide_true,if_true];rfl
 ·simp[h]
def crc(s:List UInt8):Nat:=(~~~ regP s s.length).toNat
theorem crc_lt(s:List UInt8):crc s<4294967296:=(~~~ regP s s.length).isLt
end Go.Proofs.YtcpcplaeaimmpaaGreatDoor
namespace Go.Proofs.YtcpcplaeaimmpaaGreatDoor
open Go.RowKit
def cmpB(a b:ByteArray):Int:=Lib.compareBytes a.data.toList b.data.toList
def gtB(a b:ByteArray):Bool:=!(Op.bytesLess a.toList b.toList||a.toList==b.toList)
theorem cmp_lt:∀x y:List UInt8,Lib.compareBytes x y<0↔Op.bytesLess x y=true
 |[],[]=>by simp[Lib.compareBytes,Op.bytesLess]
 |[],_::_=>by simp[Lib.compareBytes,Op.bytesLess]
 |_::_,[]=>by simp[Lib.compareBytes,Op.bytesLess]
 |a::x,b::y=>by
  have ih:=cmp_lt x y;simp only[Lib.compareBytes,Op.bytesLess];by_cases h1:a<b
  ·simp[h1]
  ·by_cases h2:b<a
   ·have h3:a≠b:=by rintro rfl;exact h1 h2
    simp[h1,h2,h3]
   ·have h3:a=b:=UInt8.le_antisymm (UInt8.not_lt.1 h2) (UInt8.not_lt.1 h1);subst h3;simp[h1,ih]
theorem cmp_eq0:∀x y:List UInt8,Lib.compareBytes x y=0↔x=y
 |[],[]=>by simp[Lib.compareBytes]
 |[],_::_=>by simp[Lib.compareBytes]
 |_::_,[]=>by simp[Lib.compareBytes]
 |a::x,b::y=>by
  have ih:=cmp_eq0 x y;simp only[Lib.compareBytes];by_cases h1:a<b
  ·have h3:a≠b:=by rintro rfl;exact UInt8.lt_irrefl _ h1
   simp[h1,h3]
  ·by_cases h2:b<a
   ·have h3:a≠b:=by rintro rfl;exact h1 h2
    simp[h1,h2,h3]
   ·have h3:a=b:=UInt8.le_antisymm (UInt8.not_lt.1 h2) (UInt8.not_lt.1 h1);subst h3;simp[h1,ih]
theorem cmp_swap:∀x y:List UInt8,Lib.compareBytes x y=-Lib.compareBytes y x
 |[],[]=>by simp[Lib.compareBytes]
 |[],_::_=>by simp[Lib.compareBytes]
 |_::_,[]=>by simp[Lib.compareBytes]
 |a::x,b::y=>by
  have ih:=cmp_swap x y;simp only[Lib.compareBytes];by_cases h1:a<b
  ·have h2:¬b<a:=λh=>UInt8.lt_irrefl _ (UInt8.lt_trans h h1);simp[h1,h2]
  ·by_cases h2:b<a
   ·simp[h1,h2]
   ·simp[h1,h2,ih]
theorem less_trans:∀x y z:List UInt8,Op.bytesLess x y=true->Op.bytesLess y z=true->Op.bytesLess x z=true
 |_,[],z=>by simp[Op.bytesLess]
 |[],b::y,[]=>by simp[Op.bytesLess]
 |[],b::y,c::z=>by simp[Op.bytesLess]
 |a::x,b::y,[]=>by simp[Op.bytesLess]
 |a::x,b::y,c::z=>by
  have ih:=less_trans x y z;simp only[Op.bytesLess,Bool.or_eq_true,Bool.and_eq_true,decide_eq_true_eq,beq_iff_eq];rintro(h1|⟨rfl,h1⟩) (h2|⟨rfl,h2⟩)
  ·exact Or.inl (UInt8.lt_trans h1 h2)
  ·exact Or.inl h1
  ·exact Or.inl h2
  ·exact Or.inr ⟨rfl,ih h1 h2⟩
theorem gtB_iff(a b:ByteArray):gtB a b=true↔cmpB b a<0:=by
 unfold gtB cmpB;rw[cmp_swap,ByteArray.toList_eq,ByteArray.toList_eq];have h1:=cmp_lt a.data.toList b.data.toList;have h2:=cmp_eq0 a.data.toList b.data.toList;simp only[Bool.not_eq_true',Bool.or_eq_false_iff,beq_eq_false_iff_ne];constructor
 ·rintro⟨h3,h4⟩;have:¬Lib.compareBytes a.data.toList b.data.toList<0:=by rw[h1,h3];simp
  have:¬Lib.compareBytes a.data.toList b.data.toList=0:=by rw[h2];exact h4
  omega
 ·intro h;exact⟨by rw[Bool.eq_false_iff];intro h3;have:=h1.2 h3;omega,λh3=>by have:=h2.2 h3;omega⟩
theorem cmpB_trans{a b c:ByteArray}(h1:cmpB a b<0)(h2:cmpB b c<0):cmpB a c<0:=by
 unfold cmpB at*;rw[cmp_lt]at*;exact less_trans _ _ _ h1 h2
theorem cmpB_eq0(a b:ByteArray):cmpB a b=0↔a=b:=by
 unfold cmpB;rw[cmp_eq0];constructor
 ·intro h;obtain⟨⟨x⟩⟩:=a;obtain⟨⟨y⟩⟩:=b;simp at h;rw[h]
 ·rintro rfl;rfl
theorem le_eq(a b:ByteArray):(Op.bytesLess a.toList b.toList||a.toList==b.toList)=!gtB a b:=by simp[gtB]
def Rising(l:List LImp):Prop:=∀i j (hi:i<l.length) (hj:j<l.length),i<j->cmpB l[i].name l[j].name<0
def hasN(l:List LImp)(n:ByteArray):Bool:=l.any λx=>decide (cmpB x.name n=0)
theorem hasN_true(l:List LImp)(n:ByteArray)(k:Nat)(hk:k<l.length)(h:cmpB l[k].name n=0):hasN l n=true:=by
 simp only[hasN,List.any_eq_true];exact⟨_,List.getElem_mem hk,by simpa using h⟩
theorem hasN_false(l:List LImp)(n:ByteArray)(h:∀k (hk:k<l.length),cmpB l[k].name n≠0):hasN l n=false:=by
 simp only[hasN,List.any_eq_false];intro x hx;obtain⟨i,hi,rfl⟩:=List.mem_iff_getElem.1 hx;simpa using h i hi
def Sides(l:List LImp)(n:ByteArray)(i j:Nat):Prop:=(∀a (h:a<l.length),a<i->cmpB l[a].name n<0)∧∀a (h:a<l.length),j<=a->¬cmpB l[a].name n<0
theorem Sides.left{l:List LImp}{n:ByteArray}{i j h:Nat}(hr:Rising l)(hh:h<l.length)(hs:Sides l n i j)(hc:cmpB l[h].name n<0):Sides l n (h+1) j:=by
 refine⟨λa ha hah=>?_,hs.2⟩;by_cases e:a=h
 ·subst e;exact hc
 ·exact cmpB_trans (hr a h ha hh (by omega)) hc
theorem Sides.right{l:List LImp}{n:ByteArray}{i j h:Nat}(hr:Rising l)(hh:h<l.length)(hs:Sides l n i j)(hc:¬cmpB l[h].name n<0):Sides l n i h:=by
 refine⟨hs.1,λa ha hah hlt=>?_⟩;by_cases e:h=a
 ·subst e;exact hc hlt
 ·exact hc (cmpB_trans (hr h a hh ha (by omega)) hlt)
theorem Sides.found{l:List LImp}{n:ByteArray}{i:Nat}(hr:Rising l)(hi:i<l.length)(hs:Sides l n i i):hasN l n=(cmpB l[i].name n==0):=by
 by_cases h:cmpB l[i].name n=0
 ·rw[hasN_true l n i hi h];simp[h]
 ·rw[hasN_false l n ?_]
  ·simp[h]
  ·intro k hk hz;have h1:=hs.2 i hi (Nat.le_refl _);by_cases hki:k<i
   ·have:=hs.1 k hk hki;omega
   ·by_cases e:k=i
    ·subst e;exact h hz
    ·have h2:=hr i k hi hk (by omega);rw[(cmpB_eq0 _ _).1 hz]at h2;omega
theorem Sides.none{l:List LImp}{n:ByteArray}{i:Nat}(hi:¬i<l.length)(hs:Sides l n i i):hasN l n=false:=
 hasN_false l n λk hk=>by have:=hs.1 k hk (by omega);omega
end Go.Proofs.YtcpcplaeaimmpaaGreatDoor
namespace Go.Proofs.YtcpcplaeaimmpaaGreatDoor
open Go.Shelf
def Tryz.lays144_ren:Go.Shelf.Ren:=⟨fun|144=>129|143=>164|219=>205|217=>245|225=>246|224=>247|267=>248|266=>275|314=>276|n=>n,fun|9=>9|4=>4|3=>3|5=>5|46=>119|146=>419|51=>117|n=>n,fun|1=>21|n=>n⟩
theorem Tryz.lays144:Go.Proofs.Lays.n144 Tryz.prog Tryz.lays144_ren:={
 mixed:=by kernel_rfl
 f143:=Tryz.func164.trans (congrArg some (by kernel_rfl))
 f144:=Tryz.func129.trans (congrArg some (by kernel_rfl))
 f217:=Tryz.func245.trans (congrArg some (by kernel_rfl))
 f219:=Tryz.func205.trans (congrArg some (by kernel_rfl))
 f224:=Tryz.func247.trans (congrArg some (by kernel_rfl))
 f225:=Tryz.func246.trans (congrArg some (by kernel_rfl))
 f266:=Tryz.func275.trans (congrArg some (by kernel_rfl))
 f267:=Tryz.func248.trans (congrArg some (by kernel_rfl))
 f314:=Tryz.func276.trans (congrArg some (by kernel_rfl))
 t3:=Tryz.underlying3
 a3:=Tryz.isAgg3
 z3:=Tryz.sizeOf3
 v3:=Tryz.zeroValue3
 t4:=Tryz.underlying4
 a4:=Tryz.isAgg4
 z4:=Tryz.sizeOf4
 v4:=Tryz.zeroValue4
 t5:=Tryz.underlying5
 a5:=Tryz.isAgg5
 z5:=Tryz.sizeOf5
 v5:=Tryz.zeroValue5
 t9:=Tryz.underlying9
 a9:=Tryz.isAgg9
 z9:=Tryz.sizeOf9
 v9:=Tryz.zeroValue9
 t46:=Tryz.underlying119
 a46:=Tryz.isAgg119
 z46:=Tryz.sizeOf119
 v46:=Tryz.zeroValue119
 t51:=Tryz.underlying117
 a51:=Tryz.isAgg117
 z51:=Tryz.sizeOf117
 v51:=Tryz.zeroValue117
 t146:=Tryz.underlying419
 a146:=Tryz.isAgg419
 z146:=Tryz.sizeOf419
 v146:=Tryz.zeroValue419
 g1:=by kernel_rfl}
def Tryz.lays101_ren:Go.Shelf.Ren:=⟨fun|101=>232|208=>266|206=>283|n=>n,fun|9=>9|4=>4|3=>3|n=>n,fun|n=>n⟩
theorem Tryz.lays101:Go.Proofs.Lays.n101 Tryz.prog Tryz.lays101_ren:={
 mixed:=by kernel_rfl
 f101:=Tryz.func232.trans (congrArg some (by kernel_rfl))
 f206:=Tryz.func283.trans (congrArg some (by kernel_rfl))
 f208:=Tryz.func266.trans (congrArg some (by kernel_rfl))
 t3:=Tryz.underlying3
 a3:=Tryz.isAgg3
 z3:=Tryz.sizeOf3
 v3:=Tryz.zeroValue3
 t4:=Tryz.underlying4
 a4:=Tryz.isAgg4
 z4:=Tryz.sizeOf4
 v4:=Tryz.zeroValue4
 t9:=Tryz.underlying9
 a9:=Tryz.isAgg9
 z9:=Tryz.sizeOf9
 v9:=Tryz.zeroValue9}
def Tryz.laysC174_ren:Go.Shelf.Ren:=⟨fun|174=>233|247=>267|245=>268|287=>284|279=>285|280=>286|281=>287|282=>288|321=>295|322=>296|316=>90|171=>104|205=>297|243=>141|246=>181|283=>226|284=>227|285=>228|286=>229|129=>199|317=>256|318=>257|319=>258|320=>259|337=>279|338=>280|n=>n,fun|9=>9|3=>3|2=>2|75=>49|85=>383|4=>4|167=>428|5=>5|53=>192|175=>214|46=>119|168=>430|37=>40|0=>0|210=>443|21=>21|127=>267|145=>449|143=>447|171=>378|173=>380|212=>401|51=>117|20=>20|213=>402|232=>439|233=>440|80=>451|n=>n,fun|15=>25|16=>26|17=>22|18=>23|19=>24|n=>n⟩
theorem Tryz.laysC174:Go.Proofs.LaysC.n174 Tryz.prog Tryz.laysC174_ren:={
 mixed:=by kernel_rfl
 f129:=Tryz.func199.trans (congrArg some (by kernel_rfl))
 f171:=Tryz.func104.trans (congrArg some (by kernel_rfl))
 f174:=Tryz.func233.trans (congrArg some (by kernel_rfl))
 f205:=Tryz.func297.trans (congrArg some (by kernel_rfl))
 f243:=Tryz.func141.trans (congrArg some (by kernel_rfl))
 f245:=Tryz.func268.trans (congrArg some (by kernel_rfl))
 f246:=Tryz.func181.trans (congrArg some (by kernel_rfl))
 f247:=Tryz.func267.trans (congrArg some (by kernel_rfl))
 f279:=Tryz.func285.trans (congrArg some (by kernel_rfl))
 f280:=Tryz.func286.trans (congrArg some (by kernel_rfl))
 f281:=Tryz.func287.trans (congrArg some (by kernel_rfl))
 f282:=Tryz.func288.trans (congrArg some (by kernel_rfl))
 f283:=Tryz.func226.trans (congrArg some (by kernel_rfl))
 f284:=Tryz.func227.trans (congrArg some (by kernel_rfl))
 f285:=Tryz.func228.trans (congrArg some (by kernel_rfl))
 f286:=Tryz.func229.trans (congrArg some (by kernel_rfl))
 f287:=Tryz.func284.trans (congrArg some (by kernel_rfl))
 f316:=Tryz.func90.trans (congrArg some (by kernel_rfl))
 f317:=Tryz.func256.trans (congrArg some (by kernel_rfl))
 f318:=Tryz.func257.trans (congrArg some (by kernel_rfl))
 f319:=Tryz.func258.trans (congrArg some (by kernel_rfl))
 f320:=Tryz.func259.trans (congrArg some (by kernel_rfl))
 f321:=Tryz.func295.trans (congrArg some (by kernel_rfl))
 f322:=Tryz.func296.trans (congrArg some (by kernel_rfl))
 f337:=Tryz.func279.trans (congrArg some (by kernel_rfl))
 f338:=Tryz.func280.trans (congrArg some (by kernel_rfl))
 t0:=Tryz.underlying0
 a0:=Tryz.isAgg0
 z0:=Tryz.sizeOf0
 v0:=Tryz.zeroValue0
 t2:=Tryz.underlying2
 a2:=Tryz.isAgg2
 z2:=Tryz.sizeOf2
 v2:=Tryz.zeroValue2
 t3:=Tryz.underlying3
 a3:=Tryz.isAgg3
 z3:=Tryz.sizeOf3
 v3:=Tryz.zeroValue3
 t4:=Tryz.underlying4
 a4:=Tryz.isAgg4
 z4:=Tryz.sizeOf4
 v4:=Tryz.zeroValue4
 t5:=Tryz.underlying5
 a5:=Tryz.isAgg5
 z5:=Tryz.sizeOf5
 v5:=Tryz.zeroValue5
 t9:=Tryz.underlying9
 a9:=Tryz.isAgg9
 z9:=Tryz.sizeOf9
 v9:=Tryz.zeroValue9
 t20:=Tryz.underlying20
 a20:=Tryz.isAgg20
 z20:=Tryz.sizeOf20
 v20:=Tryz.zeroValue20
 t21:=Tryz.underlying21
 a21:=Tryz.isAgg21
 z21:=Tryz.sizeOf21
 v21:=Tryz.zeroValue21
 t37:=Tryz.underlying40
 a37:=Tryz.isAgg40
 z37:=Tryz.sizeOf40
 v37:=Tryz.zeroValue40
 t46:=Tryz.underlying119
 a46:=Tryz.isAgg119
 z46:=Tryz.sizeOf119
 v46:=Tryz.zeroValue119
 t51:=Tryz.underlying117
 a51:=Tryz.isAgg117
 z51:=Tryz.sizeOf117
 v51:=Tryz.zeroValue117
 t53:=Tryz.underlying192
 a53:=Tryz.isAgg192
 z53:=Tryz.sizeOf192
 v53:=Tryz.zeroValue192
 t75:=Tryz.underlying49
 a75:=Tryz.isAgg49
 z75:=Tryz.sizeOf49
 v75:=Tryz.zeroValue49
 t85:=Tryz.underlying383
 a85:=Tryz.isAgg383
 z85:=Tryz.sizeOf383
 v85:=Tryz.zeroValue383
 t127:=Tryz.underlying267
 a127:=Tryz.isAgg267
 z127:=Tryz.sizeOf267
 v127:=Tryz.zeroValue267
 t143:=Tryz.underlying447
 a143:=Tryz.isAgg447
 z143:=Tryz.sizeOf447
 v143:=Tryz.zeroValue447
 t145:=Tryz.underlying449
 a145:=Tryz.isAgg449
 z145:=Tryz.sizeOf449
 v145:=Tryz.zeroValue449
 t167:=Tryz.underlying428
 a167:=Tryz.isAgg428
 z167:=Tryz.sizeOf428
 v167:=Tryz.zeroValue428
 t168:=Tryz.underlying430
 a168:=Tryz.isAgg430
 z168:=Tryz.sizeOf430
 v168:=Tryz.zeroValue430
 t171:=Tryz.underlying378
 a171:=Tryz.isAgg378
 z171:=Tryz.sizeOf378
 v171:=Tryz.zeroValue378
 t173:=Tryz.underlying380
 a173:=Tryz.isAgg380
 z173:=Tryz.sizeOf380
 v173:=Tryz.zeroValue380
 t175:=Tryz.underlying214
 a175:=Tryz.isAgg214
 z175:=Tryz.sizeOf214
 v175:=Tryz.zeroValue214
 t210:=Tryz.underlying443
 a210:=Tryz.isAgg443
 z210:=Tryz.sizeOf443
 v210:=Tryz.zeroValue443
 t212:=Tryz.underlying401
 a212:=Tryz.isAgg401
 z212:=Tryz.sizeOf401
 v212:=Tryz.zeroValue401
 t213:=Tryz.underlying402
 a213:=Tryz.isAgg402
 z213:=Tryz.sizeOf402
 t232:=Tryz.underlying439
 a232:=Tryz.isAgg439
 z232:=Tryz.sizeOf439
 v232:=Tryz.zeroValue439
 t233:=Tryz.underlying440
 a233:=Tryz.isAgg440
 z233:=Tryz.sizeOf440
 v233:=Tryz.zeroValue440
 g15:=by kernel_rfl
 g16:=by kernel_rfl
 g17:=by kernel_rfl
 g18:=by kernel_rfl
 g19:=by kernel_rfl
 t80:=Tryz.underlying451
 a80:=Tryz.isAgg451
 z80:=Tryz.sizeOf451
 v80:=Tryz.zeroValue451
 i0:=by kernel_rfl
 i2:=by kernel_rfl
 i3:=by kernel_rfl
 i4:=by kernel_rfl
 i5:=by kernel_rfl
 i9:=by kernel_rfl
 i20:=by kernel_rfl
 i21:=by kernel_rfl
 i37:=by kernel_rfl
 i46:=by kernel_rfl
 i51:=by kernel_rfl
 i53:=by kernel_rfl
 i75:=by kernel_rfl
 i80:=by kernel_rfl
 i85:=by kernel_rfl
 i127:=by kernel_rfl
 i143:=by kernel_rfl
 i145:=by kernel_rfl
 i167:=by kernel_rfl
 i168:=by kernel_rfl
 i171:=by kernel_rfl
 i173:=by kernel_rfl
 i175:=by kernel_rfl
 i210:=by kernel_rfl
 i212:=by kernel_rfl
 i232:=by kernel_rfl
 i233:=by kernel_rfl
 m15:=by kernel_rfl
 m16:=by kernel_rfl
 m17:=by kernel_rfl
 m18:=by kernel_rfl
 m19:=by kernel_rfl
 c0:=by kernel_rfl
 c2:=by kernel_rfl
 c3:=by kernel_rfl
 c4:=by kernel_rfl
 c5:=by kernel_rfl
 c9:=by kernel_rfl
 c20:=by kernel_rfl
 c21:=by kernel_rfl
 c37:=by kernel_rfl
 c46:=by kernel_rfl
 c51:=by kernel_rfl
 c53:=by kernel_rfl
 c75:=by kernel_rfl
 c80:=by kernel_rfl
 c85:=by kernel_rfl
 c127:=by kernel_rfl
 c143:=by kernel_rfl
 c145:=by kernel_rfl
 c167:=by kernel_rfl
 c168:=by kernel_rfl
 c171:=by kernel_rfl
 c173:=by kernel_rfl
 c175:=by kernel_rfl
 c210:=by kernel_rfl
 c212:=by kernel_rfl
 c213:=by kernel_rfl
 c232:=by kernel_rfl
 c233:=by kernel_rfl}
def Tryz.laysCF_ren:Go.Shelf.Ren:=⟨fun|8=>144|6=>183|n=>n,fun|22=>105|23=>170|25=>291|4=>4|3=>3|0=>0|n=>n,fun|n=>n⟩
theorem Tryz.laysCF:Go.Proofs.SlLaysH0.n8 Tryz.prog Tryz.laysCF_ren:={
 mixed:=by kernel_rfl
 f6:=⟨Tryz.f183.name,by decide,Tryz.func183.trans (congrArg some (by kernel_rfl))⟩
 f8:=⟨Tryz.f144.name,by decide,Tryz.func144.trans (congrArg some (by kernel_rfl))⟩
 t0:=Tryz.underlying0
 a0:=Tryz.isAgg0
 z0:=Tryz.sizeOf0
 v0:=Tryz.zeroValue0
 t3:=Tryz.underlying3
 a3:=Tryz.isAgg3
 z3:=Tryz.sizeOf3
 v3:=Tryz.zeroValue3
 t4:=Tryz.underlying4
 a4:=Tryz.isAgg4
 z4:=Tryz.sizeOf4
 v4:=Tryz.zeroValue4
 t22:=Tryz.underlying105
 a22:=Tryz.isAgg105
 z22:=Tryz.sizeOf105
 v22:=Tryz.zeroValue105
 t25:=Tryz.underlying291
 a25:=Tryz.isAgg291
 z25:=Tryz.sizeOf291
 v25:=Tryz.zeroValue291}
end Go.Proofs.YtcpcplaeaimmpaaGreatDoor
namespace Go.Proofs.YtcpcplaeaimmpaaGreatDoor
section
variable {P:Program} {ops:Array Oper} {Q:Exit->Act->World->Prop} {md:Region.Mode} {S:World->Prop}
theorem wpAnyH_takeD{i d:Nat}{oi:Oper}{v:Value}{fuel:Nat}{listed:Array Bool}{a:Act}{w:World}(hi:ops[i]?=some oi)(hdst:oi.dst=some d)
 (hs:Region.noSelect ops=true) (hf:Region.free md ops listed i=true) (hr:(Region.ready md ops listed).contains i=true)
 (hQ:∀c a w,Q (.panic c) (a.put (some d) v) w->Q (.panic c) a w) (hy:YieldsIf P ops S oi v a) (hS:S w)
 (h:wpAnyH P md ops Q S fuel (listed.setIfInBounds i true) (a.put (some d) v) w):wpAnyH P md ops Q S (fuel+1) listed a w:=by
 rw[<-hdst]at hQ h;exact wpAnyH_take hi hs hf hr hQ hy hS h
end
end Go.Proofs.YtcpcplaeaimmpaaGreatDoor
