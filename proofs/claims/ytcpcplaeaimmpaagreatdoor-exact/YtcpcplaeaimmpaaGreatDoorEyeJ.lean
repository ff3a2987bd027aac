import Derived.Test.YtcpcplaeaimmpaaGreatDoorRoomyJ
import Derived.Lib.SmallJoins
import Derived.Deep.Slices
import Derived.SizedLaws
import Derived.Laws.Bits64
import Derived.Lib.Bytealg
set_option maxHeartbeats 1000000
namespace Go.Proofs.YtcpcplaeaimmpaaGreatDoor
open Go.RowKit Go.Sort
structure C3 (w:World) (b:Nat) (x y z:Value):Prop where
 c0:w.cell? ⟨b,0,none⟩=some x
 c1:w.cell? ⟨b,1,none⟩=some y
 c2:w.cell? ⟨b,2,none⟩=some z
 lt:b<w.heap.size
theorem C3.new(w:World)(x y z:Value)(t:TypeId):C3 (w.alloc (.cells #[x,y,z] t)) w.heap.size x y z:=⟨alloc_cell w #[x,y,z] t 0 _ rfl,alloc_cell w #[x,y,z] t 1 _ rfl,alloc_cell w #[x,y,z] t 2 _ rfl,by simp⟩
end Go.Proofs.YtcpcplaeaimmpaaGreatDoor
namespace Go.Proofs.YtcpcplaeaimmpaaGreatDoor
open Go.RowKit Go.Sort Go.ChangeShapes Go.WideShapes
def Wt{H:Type}(t:TypeId)(d:DataW H):Prop:=∀n∈d.weights Tryz.prog t,n<=reachBytes
theorem all_mem{H:Type}{P:Program}{e:TypeId}:∀{l:List (DataW H)} {d:DataW H},d∈l->∀n∈d.weights P e,n∈DataW.weightsAll P e l
 |x::r,d,hd,n,hn=>by
  simp only[DataW.weightsAll,List.mem_append];rcases List.mem_cons.1 hd with rfl|h
  ·exact Or.inl hn
  ·exact Or.inr (all_mem h n hn)
theorem Wt.slice{H:Type}{t e:TypeId}{es sp:List (DataW H)}(hu:Tryz.prog.underlying t=some (.slice e))(h:Wt t (.slice es sp)):es.length*Tryz.prog.bytesOf e<=reachBytes∧∀d∈es,Wt e d:=by
 refine⟨?_,λd hd n hn=>h n ?_⟩
 ·have:=h ((es.length+sp.length)*Tryz.prog.bytesOf e) (by simp[DataW.weights,hu]);exact Nat.le_trans (Nat.mul_le_mul_right _ (by omega)) this
 ·simp only[DataW.weights,hu,List.mem_cons,List.mem_append];exact Or.inr (Or.inl (all_mem hd n hn))
theorem Wt.part{H:Type}{t:TypeId}{fs:Array Field}{parts:List (DataW H)}(hu:Tryz.prog.underlying t=some (.struct fs))(h:Wt t (.agg parts)){j:Nat}{f:Field}{d:DataW H}(hf:fs[j]?=some f)(hd:parts[j]?=some d):Wt f.type d:=by
 intro n hn;refine h n ?_;simp only[DataW.weights,hu];exact DataW.weights_mem_each (j:=j) (t:=f.type) (by simp[hf]) hd n hn
theorem slice_get{H:Type}{enc:TypeId×Value->H}{w:World}{spare:Nat->Bool}{held:Bool}{t e:TypeId}{k fuel:Nat}{v:Value}{x:DataW H×List MemPlace}(hu:Tryz.prog.underlying t=some (.slice e))(hk:Tryz.prog.cellsOf e=k)(hk0:0<k)(h:DataW.trod enc Tryz.prog w 0 spare held fuel t [v]=some x)(hw:Wt t x.1):
 v=.slice none 0 0∨∃a len cap n,v=.slice (some a) len cap∧len*Tryz.prog.bytesOf e<=reachBytes∧
  ∀i,i<len->∃b o cs y,a=⟨b,o,none⟩∧cs.length=k∧(∀j,j<k->w.cell? ⟨b,o+i*k+j,none⟩=cs[j]?)∧DataW.trod enc Tryz.prog w 0 spare held n e cs=some y∧Wt e y.1:=by
 rcases Go.Deep.open_slice hu h with⟨h0,-⟩|⟨a,len,cap,m,n,D,Pl,h0,-,hl,-,hm,rfl,hx⟩
 ·exact Or.inl (by simpa using h0)
 ·obtain rfl:v=.slice (some a) len cap:=by simpa using h0
  obtain⟨hs,he⟩:=hw.slice hu;refine Or.inr ⟨a,len,cap,n,rfl,by simpa using hs,λi hi=>?_⟩;have him:i<m:=by rw[hm];split<;>omega
  obtain⟨cs,hc,ht⟩:=hx i him;rw[hk]at hc;obtain⟨-,hlen,hcell⟩:=World.cells?_some hc;obtain⟨cs0,hc0,-⟩:=hx 0 (by omega);rw[hk]at hc0;obtain⟨-,hlen0,hcell0⟩:=World.cells?_some hc0;obtain⟨b,o,spot⟩:=a;have h1:=hcell0 0 hk0;rw[List.getElem?_eq_getElem (by omega)]at h1;have hspot:spot=none:=by simpa[Addr.add]using World.cell?_spot h1
  subst hspot;refine⟨b,o,cs,_,rfl,hlen,λj hj=>?_,ht,he _ ?_⟩
  ·have:=hcell j hj;rw[add_off,add_off]at this;exact this
  ·simp only[List.mem_map,List.mem_range];exact⟨i,hi,rfl⟩
theorem one_int{H:Type}{enc:TypeId×Value->H}{w:World}{spare:Nat->Bool}{held:Bool}{t:TypeId}{fuel:Nat}{cs:List Value}{y:DataW H×List MemPlace}(hu:Tryz.prog.underlying t=some (.int .i64))(h:DataW.trod enc Tryz.prog w 0 spare held fuel t cs=some y):∃n:Int,cs=[.int .i64 n]:=by
 obtain⟨n,h1,-⟩:=DataW.trod_int hu h;exact⟨n,h1⟩
theorem one_at{cs:List Value}{i k:Nat}{v:Value}(hk:k=1)(h:(cs.drop i).take k=[v]):cs[i]?=some v:=by
 subst hk;have h1:=congrArg (·[0]?) h;simpa[List.getElem?_take,List.getElem?_drop]using h1
theorem one_cell{cs:List Value}{i k:Nat}(hk:k=1)(hi:i<cs.length):∃v,(cs.drop i).take k=[v]∧cs[i]?=some v:=by
 subst hk;exact⟨cs[i],by rw[List.drop_eq_getElem_cons hi];rfl,List.getElem?_eq_getElem hi⟩
theorem cells_int:Tryz.prog.cellsOf 3=1:=by kernel_rfl
theorem cells_bool:Tryz.prog.cellsOf 4=1:=by kernel_rfl
theorem cells_string:Tryz.prog.cellsOf 9=1:=by kernel_rfl
theorem cells_alts:Tryz.prog.cellsOf 87=1:=by kernel_rfl
theorem cells_code:Tryz.prog.cellsOf 59=1:=by kernel_rfl
theorem cells_alt:Tryz.prog.cellsOf 91=2:=by kernel_rfl
theorem cells_ins:Tryz.prog.cellsOf 89=3:=by kernel_rfl
theorem cells_imp:Tryz.prog.cellsOf 58=2:=by kernel_rfl
theorem cells_glob:Tryz.prog.cellsOf 61=4:=by kernel_rfl
theorem bytes_alt:Tryz.prog.bytesOf 91=16:=by kernel_rfl
theorem bytes_ins:Tryz.prog.bytesOf 89=40:=by kernel_rfl
theorem bytes_imp:Tryz.prog.bytesOf 58=24:=by kernel_rfl
theorem bytes_glob:Tryz.prog.bytesOf 61=56:=by kernel_rfl
theorem alt_of{H:Type}{enc:TypeId×Value->H}{w:World}{spare:Nat->Bool}{held:Bool}{fuel:Nat}{cs:List Value}{y:DataW H×List MemPlace}(h:DataW.trod enc Tryz.prog w 0 spare held fuel 91 cs=some y):∃x:LAlt,cs[0]?=some (.int .i64 x.tag)∧cs[1]?=some (.int .i64 x.to):=by
 obtain⟨y0,y1,n,-,-,h0,h1⟩:=trod_struct2 Tryz.underlying91 h;obtain⟨a,e0⟩:=one_int Tryz.underlying3 h0;obtain⟨b,e1⟩:=one_int Tryz.underlying3 h1;exact⟨⟨a,b⟩,one_at cells_int e0,one_at cells_int e1⟩
theorem alts_of{H:Type}{enc:TypeId×Value->H}{w:World}{spare:Nat->Bool}{held:Bool}{fuel:Nat}{v:Value}{x:DataW H×List MemPlace}(h:DataW.trod enc Tryz.prog w 0 spare held fuel 87 [v]=some x)(hw:Wt 87 x.1):∃l:List LAlt,AltsAt w v l∧l.length*16<=140737488351232:=by
 rcases slice_get Tryz.underlying87 cells_alt (by omega) h hw with rfl|⟨a,len,cap,n,rfl,hs,hx⟩
 ·exact⟨[],⟨none,0,rfl,by simp[short],λi hi=>absurd hi (by simp)⟩,by simp⟩
 ·rw[bytes_alt]at hs;have:Inhabited LAlt:=⟨⟨0,0⟩⟩;obtain⟨f,hf⟩:=Go.Deep.choose_lt (α:=LAlt) (n:=len) (p:=λi x=>∃b o,a=⟨b,o,none⟩∧w.cell? ⟨b,o+i*2,none⟩=some (.int .i64 x.tag)∧w.cell? ⟨b,o+i*2+1,none⟩=some (.int .i64 x.to)) (λi hi=>by
   obtain⟨b,o,cs,y,rfl,-,hc,ht,-⟩:=hx i hi;obtain⟨x,h0,h1⟩:=alt_of ht;exact⟨x,b,o,rfl,(hc 0 (by omega)).trans h0,(hc 1 (by omega)).trans h1⟩)
  have hl:((List.range len).map f).length=len:=by simp
  refine⟨(List.range len).map f,⟨some a,cap,by rw[hl],?_,λi hi=>?_⟩,?_⟩
  ·rw[hl];simp only[short];unfold reachBytes at hs;omega
  ·rw[hl]at hi;obtain⟨b,o,e,h0,h1⟩:=hf i hi;exact⟨b,o,by rw[e],by simpa using h0,by simpa using h1⟩
  ·rw[hl];unfold reachBytes at hs;omega
theorem one_string{H:Type}{enc:TypeId×Value->H}{w:World}{spare:Nat->Bool}{held:Bool}{t:TypeId}{fuel:Nat}{cs:List Value}{y:DataW H×List MemPlace}(hu:Tryz.prog.underlying t=some .string)(h:DataW.trod enc Tryz.prog w 0 spare held fuel t cs=some y):∃s:ByteArray,cs=[.string s]∧s.size<=maxLen:=by
 obtain⟨s,h1,-,h2⟩:=DataW.trod_string hu h;exact⟨s,h1,h2⟩
theorem one_bool{H:Type}{enc:TypeId×Value->H}{w:World}{spare:Nat->Bool}{held:Bool}{t:TypeId}{fuel:Nat}{cs:List Value}{y:DataW H×List MemPlace}(hu:Tryz.prog.underlying t=some .bool)(h:DataW.trod enc Tryz.prog w 0 spare held fuel t cs=some y):∃b:Bool,cs=[.bool b]:=by
 obtain⟨b,h1,-⟩:=DataW.trod_bool hu h;exact⟨b,h1⟩
theorem imp_of{H:Type}{enc:TypeId×Value->H}{w:World}{spare:Nat->Bool}{held:Bool}{fuel:Nat}{cs:List Value}{y:DataW H×List MemPlace}(h:DataW.trod enc Tryz.prog w 0 spare held fuel 58 cs=some y):∃x:LImp,cs[0]?=some (.string x.name)∧cs[1]?=some (.int .i64 x.arity)∧x.name.size<=maxLen:=by
 obtain⟨y0,y1,n,-,-,h0,h1⟩:=trod_struct2 Tryz.underlying58 h;obtain⟨a,e0,hs⟩:=one_string Tryz.underlying9 h0;obtain⟨b,e1⟩:=one_int Tryz.underlying3 h1;exact⟨⟨a,b⟩,one_at cells_string e0,one_at cells_int e1,hs⟩
theorem imps_of{H:Type}{enc:TypeId×Value->H}{w:World}{spare:Nat->Bool}{held:Bool}{fuel:Nat}{v:Value}{x:DataW H×List MemPlace}(h:DataW.trod enc Tryz.prog w 0 spare held fuel 22 [v]=some x)(hw:Wt 22 x.1):∃l:List LImp,ImpsAt w v l∧l.length*24<=140737488351232:=by
 rcases slice_get Tryz.underlying22 cells_imp (by omega) h hw with rfl|⟨a,len,cap,n,rfl,hs,hx⟩
 ·exact⟨[],⟨none,0,rfl,by simp[short],λi hi=>absurd hi (by simp)⟩,by simp⟩
 ·rw[bytes_imp]at hs;have:Inhabited LImp:=⟨⟨⟨#[]⟩,0⟩⟩;obtain⟨f,hf⟩:=Go.Deep.choose_lt (α:=LImp) (n:=len) (p:=λi x=>∃b o,a=⟨b,o,none⟩∧w.cell? ⟨b,o+i*2,none⟩=some (.string x.name)∧w.cell? ⟨b,o+i*2+1,none⟩=some (.int .i64 x.arity)∧x.name.size<=maxLen) (λi hi=>by
   obtain⟨b,o,cs,y,rfl,-,hc,ht,-⟩:=hx i hi;obtain⟨x,h0,h1,h2⟩:=imp_of ht;exact⟨x,b,o,rfl,(hc 0 (by omega)).trans h0,(hc 1 (by omega)).trans h1,h2⟩)
  have hl:((List.range len).map f).length=len:=by simp
  refine⟨(List.range len).map f,⟨some a,cap,by rw[hl],?_,λi hi=>?_⟩,?_⟩
  ·rw[hl];simp only[short];unfold reachBytes at hs;omega
  ·rw[hl]at hi;obtain⟨b,o,e,h0,h1,h2⟩:=hf i hi;exact⟨b,o,by rw[e],by simpa using h0,by simpa using h1,by simpa using h2⟩
  ·rw[hl];unfold reachBytes at hs;omega
end Go.Proofs.YtcpcplaeaimmpaaGreatDoor
namespace Go.Proofs.YtcpcplaeaimmpaaGreatDoor
def cP:BitVec 32:=0x04C11DB7#32
def cPr:BitVec 32:=0xEDB88320#32
def cT(r:BitVec 32):BitVec 32:=(r<<<1) ^^^ (if r.getLsbD 31 then cP else 0#32)
def cR(r:BitVec 32):BitVec 32:=(r>>>1) ^^^ (if r.getLsbD 0 then cPr else 0#32)
def cB(b:Bool):BitVec 32:=if b then 1#32 else 0#32
def iterT:Nat->BitVec 32->BitVec 32
 |0,r=>r
 |n+1,r=>cT (iterT n r)
def mBit(s:List UInt8)(k:Nat):Bool:=decide (k<8*s.length) && (s.getD (k / 8) 0).toNat.testBit (k % 8)
def divM(s:List UInt8):Nat->BitVec 32
 |0=>0#32
 |k+1=>cT (divM s k) ^^^ cB (mBit s k)
def iterR:Nat->BitVec 32->BitVec 32
 |0,r=>r
 |n+1,r=>cR (iterR n r)
def regP(s:List UInt8):Nat->BitVec 32
 |0=>0xFFFFFFFF#32
 |i+1=>iterR 8 (regP s i ^^^ BitVec.ofNat 32 (s.getD i 0).toNat)
theorem prog_step(c:BitVec 32):(cR c).toNat=if c.toNat % 2=1 then (c.toNat / 2) ^^^ 3988292384 else c.toNat / 2:=by
 unfold cR;have h0:c.getLsbD 0=decide (c.toNat % 2=1):=by rw[BitVec.getLsbD,Nat.testBit_zero]
 rw[BitVec.toNat_xor,BitVec.toNat_ushiftRight,h0,Nat.shiftRight_eq_div_pow];by_cases h:c.toNat % 2=1
 ·simp only[h,decide_true,if_true];rfl
 ·simp[h]
def crc(s:List UInt8):Nat:=(~~~ regP s s.length).toNat
theorem crc_lt(s:List UInt8):crc s<4294967296:=(~~~ regP s s.length).isLt
end Go.Proofs.YtcpcplaeaimmpaaGreatDoor
namespace Go.Proofs.YtcpcplaeaimmpaaGreatDoor
open Go.RowKit
theorem wrapU64(n:Nat)(h:n<18446744073709551616):IntKind.u64.wrap (n:Int)=(n:Int):=by
 simp only[IntKind.wrap,IntKind.signed,IntKind.bits];simp;omega
theorem list_at(s:ByteArray)(i:Nat)(h:i<s.size):s.data.toList.getD i 0=s[i]:=by
 rw[List.getD,List.getElem?_eq_getElem (by rw[Array.length_toList];exact h)];rfl
def nmC(c:Int):Bool:=isLet c||isDig c||c==35
def nmAll(l:List UInt8):Bool:=l.all λc=>nmC c.toNat
def nmB(s:ByteArray):Bool:=decide (0<s.size) && decide (s.size<=16) && isLet (s.data.toList.headD 0).toNat && nmAll s.data.toList
theorem take_snoc(s:ByteArray)(k:Nat)(h:k<s.size):s.data.toList.take (k+1)=s.data.toList.take k++[s[k]]:=by
 rw[List.take_succ_eq_append_getElem (by simpa using h)];rfl
theorem nmAll_snoc(l:List UInt8)(c:UInt8):nmAll (l++[c])=(nmAll l && nmC c.toNat):=by
 simp[nmAll]
theorem nmAll_take(s:ByteArray)(k:Nat)(h:k<s.size)(hf:nmC s[k].toNat=false):nmAll s.data.toList=false:=by
 have hm:s[k]∈s.data.toList:=by
  have:s[k]=s.data.toList[k]'(by simpa using h):=rfl;rw[this];exact List.getElem_mem _
 simp only[nmAll,List.all_eq_false];exact⟨_,hm,by simp[hf]⟩
theorem ret_bool{a b:Bool}(h:a=b):Ending.returned (.bool a)=.returned (.bool b):=by rw[h]
theorem nmB_zero(s:ByteArray)(h:s.size=0):nmB s=false:=by simp[nmB,h]
theorem nmB_long(s:ByteArray)(h:16<s.size):nmB s=false:=by
 have:¬s.size<=16:=by omega
 simp[nmB,this]
theorem head_eq(s:ByteArray)(h:0<s.size):s.data.toList.headD 0=s[0]:=by
 obtain⟨⟨l⟩⟩:=s;cases l with
 |nil=>simp[ByteArray.size]at h
 |cons c r=>rfl
theorem nmB_mid(s:ByteArray)(h:0<s.size)(h16:s.size<=16):nmB s=(isLet s[0].toNat && nmAll s.data.toList):=by
 rw[<-head_eq s h];simp[nmB,h,h16]
theorem IsName_any(s:ByteArray)(w:World)(hs:s.size<=maxLen):
 Calls Tryz.prog 36 #[.string s] w λe w'=>e=.returned (.bool (nmB s))∧w'=w:=by
 unfold maxLen at hs;by_cases h0:s.size=0
 ·go_enter Tryz.func36,Tryz.ntmps36;go_wp2;go_ret;exact⟨ret_bool (nmB_zero s h0).symm,rfl⟩
 ·by_cases h16:16<s.size
  ·go_enter Tryz.func36,Tryz.ntmps36;go_wp2;go_ret;exact⟨ret_bool (nmB_long s h16).symm,rfl⟩
  ·have hb0:((s.size:Int)==0)=false:=by rw[beq_eq_false_iff_ne];omega
   have hmid:=nmB_mid s (by omega) (by omega);have HM:Hid (nmB s=(isLet s[0].toNat && nmAll s.data.toList)):=hmid;clear hmid;by_cases hl:isLet s[0].toNat=true
   ·go_enter Tryz.func36,Tryz.ntmps36;go_wp2_with (first|(go_at_call 71;refine(isLetter_any _ _).mono ?_;rintro e w' ⟨rfl,rfl⟩))
    go_loop [20] (λi=>∃k:Nat,k<=s.size∧i=.int .i64 k∧Hid (nmAll (s.data.toList.take k)=true)) (λi=>s.size-(intOf i).toNat)
    case atStart=>exact⟨0,Nat.zero_le _,rfl,rfl⟩
    case round=>
     obtain⟨k,hk,rfl,ha⟩:=hrel;by_cases hlt:k<s.size
     ·have HS:Hid (nmAll (s.data.toList.take (k+1))=(nmAll (s.data.toList.take k) && nmC s[k].toNat)):=by
       rw[take_snoc s k hlt];exact nmAll_snoc _ _
      have HF:Hid (nmC s[k].toNat=false->nmAll s.data.toList=false):=nmAll_take s k hlt;go_wp2_with (first|(go_at_call 71;refine(isLetter_any _ _).mono ?_;rintro e w' ⟨rfl,rfl⟩)|(go_at_call 72;refine(isDigit_any _ _).mono ?_;rintro e w' ⟨rfl,rfl⟩))
      case roundEnd=>exact⟨⟨k+1,by omega,by go_num,by show nmAll _=true;rw[HS.out,ha.out];simp_all[nmC]⟩,by simp[intOf];omega⟩
      case roundEnd=>exact⟨⟨k+1,by omega,by go_num,by show nmAll _=true;rw[HS.out,ha.out];simp_all[nmC]⟩,by simp[intOf];omega⟩
      case roundEnd=>exact⟨⟨k+1,by omega,by go_num,by show nmAll _=true;rw[HS.out,ha.out];simp_all[nmC]⟩,by simp[intOf];omega⟩
      go_ret;exact⟨ret_bool (by rw[HM.out,HF.out (by simp_all[nmC])];simp),rfl⟩
     ·go_wp2;go_ret;refine⟨ret_bool ?_,rfl⟩;rw[HM.out,hl];have:=ha.out;rw[List.take_of_length_le (by simp;omega)]at this;simp[this]
   ·have hl':isLet s[0].toNat=false:=by simpa using hl
    go_enter Tryz.func36,Tryz.ntmps36;go_wp2_with (first|(go_at_call 71;refine(isLetter_any _ _).mono ?_;rintro e w' ⟨rfl,rfl⟩))
    go_ret;exact⟨ret_bool (by rw[HM.out,hl'];rfl),rfl⟩
def cmpB(a b:ByteArray):Int:=Lib.compareBytes a.data.toList b.data.toList
def gtB(a b:ByteArray):Bool:=!(Op.bytesLess a.toList b.toList||a.toList==b.toList)
theorem cmp_lt:∀x y:List UInt8,Lib.compareBytes x y<0↔Op.bytesLess x y=true
 |[],[]=>by simp[Lib.compareBytes,Op.bytesLess]
 |[],_::_=>by simp[Lib.compareBytes,Op.bytesLess]
 |_::_,[]=>by simp[Lib.compareBytes,Op.bytesLess]
 |a::x,b::y=>by
  have ih:=cmp_lt x y;simp only[Lib.compareBytes,Op.bytesLess];by_cases h1:a<b
  ·simp[h1]
  ·by_cases h2:b<a
   ·have h3:a≠b:=by rintro rfl;exact h1 h2
    simp[h1,h2,h3]
   ·have h3:a=b:=UInt8.le_antisymm (UInt8.not_lt.1 h2) (UInt8.not_lt.1 h1);subst h3;simp[h1,ih]
theorem cmp_eq0:∀x y:List UInt8,Lib.compareBytes x y=0↔x=y
 |[],[]=>by simp[Lib.compareBytes]
 |[],_::_=>by simp[Lib.compareBytes]
 |_::_,[]=>by simp[Lib.compareBytes]
 |a::x,b::y=>by
  have ih:=cmp_eq0 x y;simp only[Lib.compareBytes];by_cases h1:a<b
  ·have h3:a≠b:=by rintro rfl;exact UInt8.lt_irrefl _ h1
   simp[h1,h3]
  ·by_cases h2:b<a
   ·have h3:a≠b:=by rintro rfl;exact h1 h2
    simp[h1,h2,h3]
   ·have h3:a=b:=UInt8.le_antisymm (UInt8.not_lt.1 h2) (UInt8.not_lt.1 h1);subst h3;simp[h1,ih]
theorem cmp_swap:∀x y:List UInt8,Lib.compareBytes x y=-Lib.compareBytes y x
 |[],[]=>by simp[Lib.compareBytes]
 |[],_::_=>by simp[Lib.compareBytes]
 |_::_,[]=>by simp[Lib.compareBytes]
 |a::x,b::y=>by
  have ih:=cmp_swap x y;simp only[Lib.compareBytes];by_cases h1:a<b
  ·have h2:¬b<a:=λh=>UInt8.lt_irrefl _ (UInt8.lt_trans h h1);simp[h1,h2]
  ·by_cases h2:b<a
   ·simp[h1,h2]
   ·simp[h1,h2,ih]
theorem less_trans:∀x y z:List UInt8,Op.bytesLess x y=true->Op.bytesLess y z=true->Op.bytesLess x z=true
 |_,[],z=>by simp[Op.bytesLess]
 |[],b::y,[]=>by simp[Op.bytesLess]
 |[],b::y,c::z=>by simp[Op.bytesLess]
 |a::x,b::y,[]=>by simp[Op.bytesLess]
 |a::x,b::y,c::z=>by
  have ih:=less_trans x y z;simp only[Op.bytesLess,Bool.or_eq_true,Bool.and_eq_true,decide_eq_true_eq,beq_iff_eq];rintro(h1|⟨rfl,h1⟩) (h2|⟨rfl,h2⟩)
  ·exact Or.inl (UInt8.lt_trans h1 h2)
  ·exact Or.inl h1
  ·exact Or.inl h2
  ·exact Or.inr ⟨rfl,ih h1 h2⟩
theorem gtB_iff(a b:ByteArray):gtB a b=true↔cmpB b a<0:=by
 unfold gtB cmpB;rw[cmp_swap,ByteArray.toList_eq,ByteArray.toList_eq];have h1:=cmp_lt a.data.toList b.data.toList;have h2:=cmp_eq0 a.data.toList b.data.toList;simp only[Bool.not_eq_true',Bool.or_eq_false_iff,beq_eq_false_iff_ne];constructor
 ·rintro⟨h3,h4⟩;have:¬Lib.compareBytes a.data.toList b.data.toList<0:=by rw[h1,h3];simp
  have:¬Lib.compareBytes a.data.toList b.data.toList=0:=by rw[h2];exact h4
  omega
 ·intro h;exact⟨by rw[Bool.eq_false_iff];intro h3;have:=h1.2 h3;omega,λh3=>by have:=h2.2 h3;omega⟩
theorem cmpB_trans{a b c:ByteArray}(h1:cmpB a b<0)(h2:cmpB b c<0):cmpB a c<0:=by
 unfold cmpB at*;rw[cmp_lt]at*;exact less_trans _ _ _ h1 h2
theorem cmpB_eq0(a b:ByteArray):cmpB a b=0↔a=b:=by
 unfold cmpB;rw[cmp_eq0];constructor
 ·intro h;obtain⟨⟨x⟩⟩:=a;obtain⟨⟨y⟩⟩:=b;simp at h;rw[h]
 ·rintro rfl;rfl
theorem le_eq(a b:ByteArray):(Op.bytesLess a.toList b.toList||a.toList==b.toList)=!gtB a b:=by simp[gtB]
def Rising(l:List LImp):Prop:=∀i j (hi:i<l.length) (hj:j<l.length),i<j->cmpB l[i].name l[j].name<0
def hasN(l:List LImp)(n:ByteArray):Bool:=l.any λx=>decide (cmpB x.name n=0)
theorem hasN_true(l:List LImp)(n:ByteArray)(k:Nat)(hk:k<l.length)(h:cmpB l[k].name n=0):hasN l n=true:=by
 simp only[hasN,List.any_eq_true];exact⟨_,List.getElem_mem hk,by simpa using h⟩
theorem hasN_false(l:List LImp)(n:ByteArray)(h:∀k (hk:k<l.length),cmpB l[k].name n≠0):hasN l n=false:=by
 simp only[hasN,List.any_eq_false];intro x hx;obtain⟨i,hi,rfl⟩:=List.mem_iff_getElem.1 hx;simpa using h i hi
def Sides(l:List LImp)(n:ByteArray)(i j:Nat):Prop:=(∀a (h:a<l.length),a<i->cmpB l[a].name n<0)∧∀a (h:a<l.length),j<=a->¬cmpB l[a].name n<0
theorem Sides.left{l:List LImp}{n:ByteArray}{i j h:Nat}(hr:Rising l)(hh:h<l.length)(hs:Sides l n i j)(hc:cmpB l[h].name n<0):Sides l n (h+1) j:=by
 refine⟨λa ha hah=>?_,hs.2⟩;by_cases e:a=h
 ·subst e;exact hc
 ·exact cmpB_trans (hr a h ha hh (by omega)) hc
theorem Sides.right{l:List LImp}{n:ByteArray}{i j h:Nat}(hr:Rising l)(hh:h<l.length)(hs:Sides l n i j)(hc:¬cmpB l[h].name n<0):Sides l n i h:=by
 refine⟨hs.1,λa ha hah hlt=>?_⟩;by_cases e:h=a
 ·subst e;exact hc hlt
 ·exact hc (cmpB_trans (hr h a hh ha (by omega)) hlt)
theorem Sides.found{l:List LImp}{n:ByteArray}{i:Nat}(hr:Rising l)(hi:i<l.length)(hs:Sides l n i i):hasN l n=(cmpB l[i].name n==0):=by
 by_cases h:cmpB l[i].name n=0
 ·rw[hasN_true l n i hi h];simp[h]
 ·rw[hasN_false l n ?_]
  ·simp[h]
  ·intro k hk hz;have h1:=hs.2 i hi (Nat.le_refl _);by_cases hki:k<i
   ·have:=hs.1 k hk hki;omega
   ·by_cases e:k=i
    ·subst e;exact h hz
    ·have h2:=hr i k hi hk (by omega);rw[(cmpB_eq0 _ _).1 hz]at h2;omega
theorem Sides.none{l:List LImp}{n:ByteArray}{i:Nat}(hi:¬i<l.length)(hs:Sides l n i i):hasN l n=false:=
 hasN_false l n λk hk=>by have:=hs.1 k hk (by omega);omega
def vRead(s:ByteArray)(fr k p n:Nat):Except (Nat×Nat) (Nat×Nat):=
 if h:p<s.size then
  if (k=9∧1<s[p].toNat)∨(0<k∧s[p].toNat=0) then .error (9,fr)
  else if s[p].toNat<128 then .ok (n+s[p].toNat % 128*128 ^ k,p+1)
  else vRead s fr (k+1) (p+1) (n+s[p].toNat % 128*128 ^ k)
 else .error (6,s.size)
 termination_by s.size-p
theorem vRead_short{s:ByteArray}{fr k p n:Nat}(h:¬p<s.size):vRead s fr k p n=.error (6,s.size):=by rw[vRead,dif_neg h]
theorem vRead_bad{s:ByteArray}{fr k p n:Nat}(h:p<s.size)(h1:(k=9∧1<s[p].toNat)∨(0<k∧s[p].toNat=0)):vRead s fr k p n=.error (9,fr):=by rw[vRead,dif_pos h,if_pos h1]
theorem vRead_end{s:ByteArray}{fr k p n:Nat}(h:p<s.size)(h1:¬((k=9∧1<s[p].toNat)∨(0<k∧s[p].toNat=0)))(h2:s[p].toNat<128):vRead s fr k p n=.ok (n+s[p].toNat % 128*128 ^ k,p+1):=by rw[vRead,dif_pos h,if_neg h1,if_pos h2]
theorem vRead_more{s:ByteArray}{fr k p n:Nat}(h:p<s.size)(h1:¬((k=9∧1<s[p].toNat)∨(0<k∧s[p].toNat=0)))(h2:¬s[p].toNat<128):vRead s fr k p n=vRead s fr (k+1) (p+1) (n+s[p].toNat % 128*128 ^ k):=by rw[vRead,dif_pos h,if_neg h1,if_neg h2]
theorem vRead_err{s:ByteArray}{fr:Nat}:∀(m k p n c a:Nat),s.size-p<=m->vRead s fr k p n=.error (c,a)->c=6∨c=9:=by
 intro m;induction m with
 |zero=>
  intro k p n c a hm h;rw[vRead_short (by omega)]at h;cases h;exact Or.inl rfl
 |succ m ih=>
  intro k p n c a hm h;by_cases hp:p<s.size
  ·by_cases h1:(k=9∧1<s[p].toNat)∨(0<k∧s[p].toNat=0)
   ·rw[vRead_bad hp h1]at h;cases h;exact Or.inr rfl
   ·by_cases h2:s[p].toNat<128
    ·rw[vRead_end hp h1 h2]at h;cases h
    ·rw[vRead_more hp h1 h2]at h;exact ih _ _ _ _ _ (by omega) h
  ·rw[vRead_short hp]at h;cases h;exact Or.inl rfl
theorem vRead_ok{s:ByteArray}{fr:Nat}:∀(m k p n v q:Nat),s.size-p<=m->k<=9->n<128 ^ k->vRead s fr k p n=.ok (v,q)->v<18446744073709551616∧p<q∧q<=s.size:=by
 intro m;induction m with
 |zero=>
  intro k p n v q hm hk hn h;rw[vRead_short (by omega)]at h;cases h
 |succ m ih=>
  intro k p n v q hm hk hn h;by_cases hp:p<s.size
  ·by_cases h1:(k=9∧1<s[p].toNat)∨(0<k∧s[p].toNat=0)
   ·rw[vRead_bad hp h1]at h;cases h
   ·have hm1:s[p].toNat % 128*128 ^ k+128 ^ k<=128 ^ (k+1):=by
     rw[Nat.pow_succ,Nat.mul_comm (128 ^ k) 128,<-Nat.succ_mul];exact Nat.mul_le_mul_right _ (by omega)
    by_cases h2:s[p].toNat<128
    ·rw[vRead_end hp h1 h2]at h;have hu9:128 ^ k<=9223372036854775808:=Nat.le_trans (Nat.pow_le_pow_right (by omega) hk) (by decide);have hlim:s[p].toNat % 128*128 ^ k+128 ^ k<=18446744073709551616:=by
      by_cases h9:k=9
      ·have hb1:s[p].toNat % 128<=1:=by omega
       have h1:=Nat.mul_le_mul_right (128 ^ k) hb1;rw[Nat.one_mul]at h1;exact Nat.le_trans (Nat.add_le_add h1 hu9) (Nat.le_trans (Nat.add_le_add_right hu9 _) (by decide))
      ·exact Nat.le_trans hm1 (Nat.le_trans (Nat.pow_le_pow_right (by omega) (show k+1<=9 by omega)) (by decide))
     simp only[Except.ok.injEq,Prod.mk.injEq]at h;obtain⟨rfl,rfl⟩:=h;exact⟨by omega,by omega,by omega⟩
    ·rw[vRead_more hp h1 h2]at h;have hb:s[p].toNat<256:=s[p].toNat_lt;obtain⟨a,b,c⟩:=ih _ _ _ _ _ (by omega) (by omega) (by omega) h;exact⟨a,by omega,c⟩
  ·rw[vRead_short hp]at h;cases h
abbrev Rd(α:Type):=Except (Nat×Nat) (α×Nat)
def rdV(s:ByteArray)(p:Nat):Rd Nat:=vRead s p 0 p 0
def CE(c:Nat):Prop:=c=4∨c=6∨c=8∨c=9∨c=10∨c=11
theorem CE.ne{c:Nat}(h:CE c):c≠0:=by unfold CE at h;omega
theorem rdV_err{s:ByteArray}{p c a:Nat}(h:rdV s p=.error (c,a)):c=6∨c=9:=vRead_err (s.size-p) 0 p 0 c a (Nat.le_refl _) h
theorem rdV_ok{s:ByteArray}{p v q:Nat}(h:rdV s p=.ok (v,q)):v<18446744073709551616∧p<q∧q<=s.size:=vRead_ok (s.size-p) 0 p 0 v q (Nat.le_refl _) (by omega) (by simp) h
def rdN(s:ByteArray)(lo hi p:Nat):Rd Nat:=
 match rdV s p with
 |.error e=>.error e
 |.ok (n,q)=>if n<lo∨hi<n then .error (8,p) else .ok (n,q)
theorem rdN_v{s:ByteArray}{lo hi p:Nat}{e:Nat×Nat}(h:rdV s p=.error e):rdN s lo hi p=.error e:=by rw[rdN,h]
theorem rdN_bad{s:ByteArray}{lo hi p n q:Nat}(h:rdV s p=.ok (n,q))(h1:n<lo∨hi<n):rdN s lo hi p=.error (8,p):=by rw[rdN,h];exact if_pos h1
theorem rdN_good{s:ByteArray}{lo hi p n q:Nat}(h:rdV s p=.ok (n,q))(h1:¬(n<lo∨hi<n)):rdN s lo hi p=.ok (n,q):=by rw[rdN,h];exact if_neg h1
theorem rdN_ok{s:ByteArray}{lo hi p v q:Nat}(h:rdN s lo hi p=.ok (v,q)):lo<=v∧v<=hi∧p<q∧q<=s.size:=by
 match h1:rdV s p with
 |.error e=>rw[rdN_v h1]at h;cases h
 |.ok (n,r)=>
  by_cases h2:n<lo∨hi<n
  ·rw[rdN_bad h1 h2]at h;cases h
  ·rw[rdN_good h1 h2]at h;simp only[Except.ok.injEq,Prod.mk.injEq]at h;obtain⟨rfl,rfl⟩:=h;have:=rdV_ok h1;exact⟨by omega,by omega,by omega,by omega⟩
theorem rdN_err{s:ByteArray}{lo hi p c a:Nat}(h:rdN s lo hi p=.error (c,a)):CE c:=by
 unfold CE;match h1:rdV s p with
 |.error (c',a')=>rw[rdN_v h1]at h;cases h;rcases rdV_err h1 with rfl|rfl<;>omega
 |.ok (n,r)=>
  by_cases h2:n<lo∨hi<n
  ·rw[rdN_bad h1 h2]at h;cases h;omega
  ·rw[rdN_good h1 h2]at h;cases h
def rdName(s:ByteArray)(p:Nat):Rd ByteArray:=
 match rdV s p with
 |.error e=>.error e
 |.ok (n,q)=>if n<1∨16<n then .error (4,p) else if s.size<q+n then .error (6,s.size) else if nmB (s.extract q (q+n))=true then .ok (s.extract q (q+n),q+n) else .error (4,p)
theorem rdName_v{s:ByteArray}{p:Nat}{e:Nat×Nat}(h:rdV s p=.error e):rdName s p=.error e:=by rw[rdName,h]
theorem rdName_size{s:ByteArray}{p n q:Nat}(h:rdV s p=.ok (n,q))(h1:n<1∨16<n):rdName s p=.error (4,p):=by rw[rdName,h];exact if_pos h1
theorem rdName_short{s:ByteArray}{p n q:Nat}(h:rdV s p=.ok (n,q))(h1:¬(n<1∨16<n))(h2:s.size<q+n):rdName s p=.error (6,s.size):=by
 rw[rdName,h];show(if _ then _ else _)=_;rw[if_neg h1,if_pos h2]
theorem rdName_bad{s:ByteArray}{p n q:Nat}(h:rdV s p=.ok (n,q))(h1:¬(n<1∨16<n))(h2:¬s.size<q+n)(h3:nmB (s.extract q (q+n))=false):rdName s p=.error (4,p):=by
 rw[rdName,h];show(if _ then _ else _)=_;rw[if_neg h1,if_neg h2,if_neg (by rw[h3];decide)]
theorem rdName_good{s:ByteArray}{p n q:Nat}(h:rdV s p=.ok (n,q))(h1:¬(n<1∨16<n))(h2:¬s.size<q+n)(h3:nmB (s.extract q (q+n))=true):rdName s p=.ok (s.extract q (q+n),q+n):=by
 rw[rdName,h];show(if _ then _ else _)=_;rw[if_neg h1,if_neg h2,if_pos h3]
theorem rdName_cases(s:ByteArray)(p:Nat):(∃e,rdV s p=.error e)∨∃n q,rdV s p=.ok (n,q)∧((n<1∨16<n)∨(¬(n<1∨16<n)∧s.size<q+n)∨(¬(n<1∨16<n)∧¬s.size<q+n)):=by
 match rdV s p with
 |.error e=>exact Or.inl ⟨e,rfl⟩
 |.ok (n,q)=>exact Or.inr ⟨n,q,rfl,by omega⟩
theorem rdName_ok{s:ByteArray}{p q:Nat}{t:ByteArray}(h:rdName s p=.ok (t,q)):p<q∧q<=s.size∧nmB t=true∧t.size<=16∧0<t.size:=by
 rcases rdName_cases s p with⟨e,h1⟩|⟨n,r,h1,h2|⟨h2,h3⟩|⟨h2,h3⟩⟩
 ·rw[rdName_v h1]at h;cases h
 ·rw[rdName_size h1 h2]at h;cases h
 ·rw[rdName_short h1 h2 h3]at h;cases h
 ·have hv:=rdV_ok h1;cases h4:nmB (s.extract r (r+n)) with
  |false=>rw[rdName_bad h1 h2 h3 h4]at h;cases h
  |true=>
   rw[rdName_good h1 h2 h3 h4]at h;simp only[Except.ok.injEq,Prod.mk.injEq]at h;obtain⟨rfl,rfl⟩:=h;have hz:(s.extract r (r+n)).size=n:=by rw[ByteArray.size_extract];omega
   exact⟨by omega,by omega,h4,by omega,by omega⟩
theorem rdName_err{s:ByteArray}{p c a:Nat}(h:rdName s p=.error (c,a)):CE c:=by
 unfold CE;rcases rdName_cases s p with⟨⟨c',a'⟩,h1⟩|⟨n,r,h1,h2|⟨h2,h3⟩|⟨h2,h3⟩⟩
 ·rw[rdName_v h1]at h;cases h;rcases rdV_err h1 with rfl|rfl<;>omega
 ·rw[rdName_size h1 h2]at h;cases h;omega
 ·rw[rdName_short h1 h2 h3]at h;cases h;omega
 ·cases h4:nmB (s.extract r (r+n)) with
  |false=>rw[rdName_bad h1 h2 h3 h4]at h;cases h;omega
  |true=>rw[rdName_good h1 h2 h3 h4]at h;cases h
def rdNameB(s:ByteArray)(last:ByteArray)(imps:List LImp)(p:Nat):Rd ByteArray:=
 match rdName s p with
 |.error e=>.error e
 |.ok (t,q)=>if (gtB t last && !hasN imps t)=true then .ok (t,q) else .error (10,p)
theorem rdNameB_n{s last:ByteArray}{imps:List LImp}{p:Nat}{e:Nat×Nat}(h:rdName s p=.error e):rdNameB s last imps p=.error e:=by rw[rdNameB,h]
theorem rdNameB_good{s last t:ByteArray}{imps:List LImp}{p q:Nat}(h:rdName s p=.ok (t,q))(h1:(gtB t last && !hasN imps t)=true):rdNameB s last imps p=.ok (t,q):=by rw[rdNameB,h];exact if_pos h1
theorem rdNameB_bad{s last t:ByteArray}{imps:List LImp}{p q:Nat}(h:rdName s p=.ok (t,q))(h1:(gtB t last && !hasN imps t)=false):rdNameB s last imps p=.error (10,p):=by rw[rdNameB,h];exact if_neg (by rw[h1];decide)
theorem rdNameB_ok{s last t:ByteArray}{imps:List LImp}{p q:Nat}(h:rdNameB s last imps p=.ok (t,q)):rdName s p=.ok (t,q)∧gtB t last=true∧hasN imps t=false:=by
 match h1:rdName s p with
 |.error e=>rw[rdNameB_n h1]at h;cases h
 |.ok (t',q')=>
  cases h2:(gtB t' last && !hasN imps t') with
  |false=>rw[rdNameB_bad h1 h2]at h;cases h
  |true=>
   rw[rdNameB_good h1 h2]at h;simp only[Except.ok.injEq,Prod.mk.injEq]at h;obtain⟨rfl,rfl⟩:=h;simp only[Bool.and_eq_true,Bool.not_eq_true']at h2;exact⟨rfl,h2.1,h2.2⟩
theorem rdNameB_err{s last:ByteArray}{imps:List LImp}{p c a:Nat}(h:rdNameB s last imps p=.error (c,a)):CE c:=by
 unfold CE;match h1:rdName s p with
 |.error (c',a')=>rw[rdNameB_n h1]at h;cases h;exact(rdName_err h1)
 |.ok (t',q')=>
  cases h2:(gtB t' last && !hasN imps t') with
  |false=>rw[rdNameB_bad h1 h2]at h;cases h;omega
  |true=>rw[rdNameB_good h1 h2]at h;cases h
end Go.Proofs.YtcpcplaeaimmpaaGreatDoor
namespace Go.Proofs.YtcpcplaeaimmpaaGreatDoor
open Go.RowKit Go.Sort
structure EF (E:Nat) (w w':World):Prop where
 os:w'.os=w.os
 tape:w'.tape=w.tape
 output:w'.output=w.output
 size:w.heap.size<=w'.heap.size
 block:∀k,k<w.heap.size->k≠E->w'.heap[k]?=w.heap[k]?
theorem EF.refl(E:Nat)(w:World):EF E w w:=⟨rfl,rfl,rfl,Nat.le_refl _,λ_ _ _=>rfl⟩
theorem EF.trans{E:Nat}{w w1 w2:World}(h:EF E w w1)(k:EF E w1 w2):EF E w w2:=
 ⟨k.os.trans h.os,k.tape.trans h.tape,k.output.trans h.output,Nat.le_trans h.size k.size,λb hb hE=>(k.block b (Nat.lt_of_lt_of_le hb h.size) hE).trans (h.block b hb hE)⟩
theorem EF.of_below{E:Nat}{w w':World}(h:Below w.heap.size w w'):EF E w w':=⟨h.os,h.tape,h.output,h.size,λk hk _=>h.block k hk⟩
theorem EF.set{E o:Nat}{w w':World}(h:EF E w w')(u:Value):EF E w (w'.setCell ⟨E,o,none⟩ u):=
 h.trans ⟨rfl,rfl,rfl,by simp,λk _ hk=>Below.heap_setCell _ _ _ _ hk⟩
theorem off_ne{E a b:Nat}(h:a≠b):(⟨E,a,none⟩:Addr)≠⟨E,b,none⟩:=λe=>h (congrArg Addr.off e)
theorem ret_num{k:IntKind}{a b:Int}(h:a=b):Ending.returned (.int k a)=.returned (.int k b):=by rw[h]
end Go.Proofs.YtcpcplaeaimmpaaGreatDoor
