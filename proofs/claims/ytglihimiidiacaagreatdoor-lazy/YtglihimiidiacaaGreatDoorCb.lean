import Derived.WalkKit
import Derived.WalkSpells
import Derived.Lib.Bytealg
import Derived.Test.YtglihimiidiacaaGreatDoorCa
import Derived.Deep.DeepCutAuto
import Derived.Laws.Bits64
namespace Go.Proofs.YtglihimiidiacaaGreatDoor
open Go.RowKit
def cmpB(a b:ByteArray):Int:=Lib.compareBytes a.data.toList b.data.toList
def gtB(a b:ByteArray):Bool:=!(Op.bytesLess a.toList b.toList||a.toList==b.toList)
theorem cmp_lt:∀x y:List UInt8,Lib.compareBytes x y<0↔Op.bytesLess x y=true
 |[],[]=>by simp[Lib.compareBytes,Op.bytesLess]
 |[],_::_=>by simp[Lib.compareBytes,Op.bytesLess]
 |_::_,[]=>by simp[Lib.compareBytes,Op.bytesLess]
 |a::x,b::y=>by
  have ih:=cmp_lt x y;simp only[Lib.compareBytes,Op.bytesLess];by_cases h1:a<b
  ·simp[h1]
  ·by_cases h2:b<a
   ·have h3:a≠b:=by rintro rfl;exact h1 h2
    simp[h1,h2,h3]
   ·have h3:a=b:=UInt8.le_antisymm (UInt8.not_lt.1 h2) (UInt8.not_lt.1 h1);subst h3;simp[h1,ih]
theorem cmp_eq0:∀x y:List UInt8,Lib.compareBytes x y=0↔x=y
 |[],[]=>by simp[Lib.compareBytes]
 |[],_::_=>by simp[Lib.compareBytes]
 |_::_,[]=>by simp[Lib.compareBytes]
 |a::x,b::y=>by
  have ih:=cmp_eq0 x y;simp only[Lib.compareBytes];by_cases h1:a<b
  ·have h3:a≠b:=by rintro rfl;exact UInt8.lt_irrefl _ h1
   simp[h1,h3]
  ·by_cases h2:b<a
   ·have h3:a≠b:=by rintro rfl;exact h1 h2
    simp[h1,h2,h3]
   ·have h3:a=b:=UInt8.le_antisymm (UInt8.not_lt.1 h2) (UInt8.not_lt.1 h1);subst h3;simp[h1,ih]
theorem cmp_swap:∀x y:List UInt8,Lib.compareBytes x y=-Lib.compareBytes y x
 |[],[]=>by simp[Lib.compareBytes]
 |[],_::_=>by simp[Lib.compareBytes]
 |_::_,[]=>by simp[Lib.compareBytes]
 |a::x,b::y=>by
  have ih:=cmp_swap x y;simp only[Lib.compareBytes];by_cases h1:a<b
  ·have h2:¬b<a:=fun h=>UInt8.lt_irrefl _ (UInt8.lt_trans h h1);simp[h1,h2]
  ·by_cases h2:b<a
   ·simp[h1,h2]
   ·simp[h1,h2,ih]
theorem less_trans:∀x y z:List UInt8,Op.bytesLess x y=true→Op.bytesLess y z=true→Op.bytesLess x z=true
 |_,[],z=>by simp[Op.bytesLess]
 |[],b::y,[]=>by simp[Op.bytesLess]
 |[],b::y,c::z=>by simp[Op.bytesLess]
 |a::x,b::y,[]=>by simp[Op.bytesLess]
 |a::x,b::y,c::z=>by
  have ih:=less_trans x y z;simp only[Op.bytesLess,Bool.or_eq_true,Bool.and_eq_true,decide_eq_true_eq,beq_iff_eq];rintro(h1|⟨rfl,h1⟩) (h2|⟨rfl,h2⟩)
  ·exact Or.inl (UInt8.lt_trans h1 h2)
  ·exact Or.inl h1
  ·exact Or.inl h2
  ·exact Or.inr ⟨rfl,ih h1 h2⟩
theorem gtB_iff(a b:ByteArray):gtB a b=true↔cmpB b a<0:=by
 unfold gtB cmpB;rw[cmp_swap,ByteArray.toList_eq,ByteArray.toList_eq];have h1:=cmp_lt a.data.toList b.data.toList;have h2:=cmp_eq0 a.data.toList b.data.toList;simp only[Bool.not_eq_true',Bool.or_eq_false_iff,beq_eq_false_iff_ne];constructor
 ·rintro⟨h3,h4⟩;have:¬Lib.compareBytes a.data.toList b.data.toList<0:=by rw[h1,h3];simp
  have:¬Lib.compareBytes a.data.toList b.data.toList=0:=by rw[h2];exact h4
  omega
 ·intro h;exact⟨by rw[Bool.eq_false_iff];intro h3;have:=h1.2 h3;omega,fun h3=>by have:=h2.2 h3;omega⟩
theorem cmpB_trans{a b c:ByteArray}(h1:cmpB a b<0)(h2:cmpB b c<0):cmpB a c<0:=by
 unfold cmpB at*;rw[cmp_lt]at*;exact less_trans _ _ _ h1 h2
theorem cmpB_eq0(a b:ByteArray):cmpB a b=0↔a=b:=by
 unfold cmpB;rw[cmp_eq0];constructor
 ·intro h;obtain⟨⟨x⟩⟩:=a;obtain⟨⟨y⟩⟩:=b;simp at h;rw[h]
 ·rintro rfl;rfl
theorem le_eq(a b:ByteArray):(Op.bytesLess a.toList b.toList||a.toList==b.toList)=!gtB a b:=by simp[gtB]
def Rising(l:List LImp):Prop:=∀i j (hi:i<l.length) (hj:j<l.length),i<j→cmpB l[i].name l[j].name<0
def hasN(l:List LImp)(n:ByteArray):Bool:=l.any fun x=>decide (cmpB x.name n=0)
theorem hasN_true(l:List LImp)(n:ByteArray)(k:Nat)(hk:k<l.length)(h:cmpB l[k].name n=0):hasN l n=true:=by
 simp only[hasN,List.any_eq_true];exact⟨_,List.getElem_mem hk,by simpa using h⟩
theorem hasN_false(l:List LImp)(n:ByteArray)(h:∀k (hk:k<l.length),cmpB l[k].name n≠0):hasN l n=false:=by
 simp only[hasN,List.any_eq_false];intro x hx;obtain⟨i,hi,rfl⟩:=List.mem_iff_getElem.1 hx;simpa using h i hi
def Sides(l:List LImp)(n:ByteArray)(i j:Nat):Prop:=(∀a (h:a<l.length),a<i→cmpB l[a].name n<0)∧∀a (h:a<l.length),j≤a→¬cmpB l[a].name n<0
theorem Sides.left{l:List LImp}{n:ByteArray}{i j h:Nat}(hr:Rising l)(hh:h<l.length)(hs:Sides l n i j)(hc:cmpB l[h].name n<0):Sides l n (h+1) j:=by
 refine⟨fun a ha hah=>?_,hs.2⟩;by_cases e:a=h
 ·subst e;exact hc
 ·exact cmpB_trans (hr a h ha hh (by omega)) hc
theorem Sides.right{l:List LImp}{n:ByteArray}{i j h:Nat}(hr:Rising l)(hh:h<l.length)(hs:Sides l n i j)(hc:¬cmpB l[h].name n<0):Sides l n i h:=by
 refine⟨hs.1,fun a ha hah hlt=>?_⟩;by_cases e:h=a
 ·subst e;exact hc hlt
 ·exact hc (cmpB_trans (hr h a hh ha (by omega)) hlt)
theorem Sides.found{l:List LImp}{n:ByteArray}{i:Nat}(hr:Rising l)(hi:i<l.length)(hs:Sides l n i i):hasN l n=(cmpB l[i].name n==0):=by
 by_cases h:cmpB l[i].name n=0
 ·rw[hasN_true l n i hi h];simp[h]
 ·rw[hasN_false l n ?_]
  ·simp[h]
  ·intro k hk hz;have h1:=hs.2 i hi (Nat.le_refl _);by_cases hki:k<i
   ·have:=hs.1 k hk hki;omega
   ·by_cases e:k=i
    ·subst e;exact h hz
    ·have h2:=hr i k hi hk (by omega);rw[(cmpB_eq0 _ _).1 hz]at h2;omega
theorem Sides.none{l:List LImp}{n:ByteArray}{i:Nat}(hi:¬i<l.length)(hs:Sides l n i i):hasN l n=false:=
 hasN_false l n fun k hk=>by have:=hs.1 k hk (by omega);omega
end Go.Proofs.YtglihimiidiacaaGreatDoor
namespace Go.Proofs.YtglihimiidiacaaGreatDoor
open Go.RowKit
theorem cmp_run(a b:ByteArray)(w:World):(callFunc 188 #[.string a,.string b]).run Tryz.prog w=.ok (.value (.int .i64 (cmpB a b))) w:=by
 have h:=@run_callFunc_extern Tryz.prog 188 _ Extern.BytealgCompare.compare Tryz.func188 (by kernel_rfl) (by kernel_rfl) (by kernel_rfl) (by kernel_rfl);rw[h,Lib.run_compareString];rfl
set_option maxHeartbeats 400000 in
theorem Compare_any(a b:ByteArray)(w:World):Calls Tryz.prog 81 #[.string a,.string b] w fun e w'=>e=.returned (.int .i64 (cmpB a b))∧w'=w:=by
 have h:=cmp_run;go_enter Tryz.func81,Tryz.ntmps81;go_wp2;go_ret;exact⟨rfl,rfl⟩
set_option maxHeartbeats 400000 in
theorem closure_any(a b:ByteArray)(n:Int)(w:World):Calls Tryz.prog 214 #[.agg #[.string a,.int .i64 n],.string b] w fun e w'=>e=.returned (.int .i64 (cmpB a b))∧Below w.heap.size w w':=by
 go_enter Tryz.func214,Tryz.ntmps214;go_wp2_with (first|(go_at_call 81;refine(Compare_any _ _ _).mono ?_;rintro e w' ⟨rfl,rfl⟩))
 go_ret;exact⟨rfl,(Below.refl _ _).alloc (Nat.le_refl _) _⟩
end Go.Proofs.YtglihimiidiacaaGreatDoor
namespace Go.Proofs.YtglihimiidiacaaGreatDoor
open Go.RowKit
theorem int_eq{k:IntKind}{a b:Int}(h:a=b):Value.int k a=.int k b:=by rw[h]
set_option maxRecDepth 100000 in
set_option maxHeartbeats 1000000 in
theorem search_any(l:List LImp)(v:Value)(n:ByteArray)(w:World)(hI:ImpsAt w v l)(hr:Rising l):
 Calls Tryz.prog 213 #[v,.string n,.func (.func 214) #[] #[]] w fun e w'=>(∃k:Int,e=.returned (.tuple #[.int .i64 k,.bool (hasN l n)]))∧Below w.heap.size w w':=by
 obtain⟨p,cap,rfl,hs1,hcell⟩:=hI.open;have HC:Hid (∀w',Below w.heap.size w w'→ImpsIn w' p l):=hcell;have HR:Hid (Rising l):=hr;clear hcell hI hr;go_enter Tryz.func213,Tryz.ntmps213;go_wp2;go_loopw [9,10] (fun s t wr=>∃i j:Nat,i≤j∧j≤l.length∧s=.int .i64 i∧t=.int .i64 j∧Hid (Sides l n i j)∧Below w.heap.size w wr) (fun s t _=>(intOf t).toNat-(intOf s).toNat)
 case atStart=>exact⟨0,l.length,Nat.zero_le _,Nat.le_refl _,rfl,rfl,⟨fun _ _ h=>absurd h (by omega),fun a h1 h2=>absurd h1 (by omega)⟩,Below.refl _ _⟩
 case round=>
  obtain⟨i,j,hij,hjl,rfl,rfl,hs,hb⟩:=hrel;by_cases hlt:i<j
  ·obtain⟨b,o,rfl,c0,c1,_⟩:=HC.out _ hb ((i+j) / 2) (by omega);have e2:(((i:Int)+(j:Int)) / 2).toNat=(i+j) / 2:=by omega
   have HH:(i+j) / 2<l.length:=by omega
   generalize hnm:(l[(i+j) / 2]'HH).name=nm at*;generalize har:(l[(i+j) / 2]'HH).arity=ar at*;have HN:Hid ((l[(i+j) / 2]'HH).name=nm):=hnm;clear hnm har;go_wp2_with (first|(go_at_call 214;refine(closure_any _ _ _ _).mono ?_;rintro e w' ⟨rfl,hb2⟩))
   case roundEnd=>exact⟨⟨(i+j) / 2+1,j,by omega,hjl,int_eq (by omega),rfl,hs.out.left HR.out HH (by rw[HN.out];assumption),hb.trans (hb2.mono hb.size)⟩,by simp[intOf];omega⟩
   case roundEnd=>exact⟨⟨i,(i+j) / 2,by omega,by omega,rfl,int_eq (by omega),hs.out.right HR.out HH (by rw[HN.out];omega),hb.trans (hb2.mono hb.size)⟩,by simp[intOf];omega⟩
  ·obtain rfl:i=j:=by omega
   by_cases hil:i<l.length
   ·obtain⟨b,o,rfl,c0,c1,_⟩:=HC.out _ hb i hil;have HF:Hid (hasN l n=(cmpB l[i].name n==0)):=hs.out.found HR.out hil;go_wp2_with (first|(go_at_call 214;refine(closure_any _ _ _ _).mono ?_;rintro e w' ⟨rfl,hb2⟩))
    go_ret2
    exact⟨⟨_,by rw[HF.out];rfl⟩,hb.trans (hb2.mono hb.size)⟩
   ·have HF:Hid (hasN l n=false):=hs.out.none hil;go_wp2;go_ret2
    exact⟨⟨_,by rw[HF.out];rfl⟩,hb⟩
set_option maxHeartbeats 1000000 in
theorem Imported_any(l:List LImp)(v:Value)(n:ByteArray)(w:World)(hI:ImpsAt w v l)(hr:Rising l):
 Calls Tryz.prog 142 #[v,.string n] w fun e w'=>e=.returned (.bool (hasN l n))∧Below w.heap.size w w':=by
 have HI:Hid (ImpsAt w v l):=hI;have HR:Hid (Rising l):=hr;clear hI hr;go_enter Tryz.func142,Tryz.ntmps142;go_wp2_with (first|(go_at_call 213;refine(search_any l _ _ _ HI.out HR.out).mono ?_;rintro e w' ⟨⟨k,rfl⟩,hb2⟩))
 go_ret;exact⟨rfl,hb2⟩
end Go.Proofs.YtglihimiidiacaaGreatDoor
namespace Go.Proofs.YtglihimiidiacaaGreatDoor
open Go.RowKit
def nmC(c:Int):Bool:=isLet c||isDig c||c==35
def nmAll(l:List UInt8):Bool:=l.all fun c=>nmC c.toNat
def nmB(s:ByteArray):Bool:=decide (0<s.size) && decide (s.size≤16) && isLet (s.data.toList.headD 0).toNat && nmAll s.data.toList
theorem take_snoc(s:ByteArray)(k:Nat)(h:k<s.size):s.data.toList.take (k+1)=s.data.toList.take k++[s[k]]:=by
 rw[List.take_succ_eq_append_getElem (by simpa using h)];rfl
theorem nmAll_snoc(l:List UInt8)(c:UInt8):nmAll (l++[c])=(nmAll l && nmC c.toNat):=by
 simp[nmAll]
theorem nmAll_take(s:ByteArray)(k:Nat)(h:k<s.size)(hf:nmC s[k].toNat=false):nmAll s.data.toList=false:=by
 have hm:s[k]∈s.data.toList:=by
  have:s[k]=s.data.toList[k]'(by simpa using h):=rfl;rw[this];exact List.getElem_mem _
 simp only[nmAll,List.all_eq_false];exact⟨_,hm,by simp[hf]⟩
theorem ret_bool{a b:Bool}(h:a=b):Ending.returned (.bool a)=.returned (.bool b):=by rw[h]
theorem nmB_zero(s:ByteArray)(h:s.size=0):nmB s=false:=by simp[nmB,h]
theorem nmB_long(s:ByteArray)(h:16<s.size):nmB s=false:=by
 have:¬s.size≤16:=by omega
 simp[nmB,this]
theorem head_eq(s:ByteArray)(h:0<s.size):s.data.toList.headD 0=s[0]:=by
 obtain⟨⟨l⟩⟩:=s;cases l with
 |nil=>simp[ByteArray.size]at h
 |cons c r=>rfl
theorem nmB_mid(s:ByteArray)(h:0<s.size)(h16:s.size≤16):nmB s=(isLet s[0].toNat && nmAll s.data.toList):=by
 rw[←head_eq s h];simp[nmB,h,h16]
set_option maxHeartbeats 1000000 in
theorem IsName_any(s:ByteArray)(w:World)(hs:s.size≤maxLen):
 Calls Tryz.prog 91 #[.string s] w fun e w'=>e=.returned (.bool (nmB s))∧w'=w:=by
 unfold maxLen at hs;by_cases h0:s.size=0
 ·go_enter Tryz.func91,Tryz.ntmps91;go_wp2;go_ret;exact⟨ret_bool (nmB_zero s h0).symm,rfl⟩
 ·by_cases h16:16<s.size
  ·go_enter Tryz.func91,Tryz.ntmps91;go_wp2;go_ret;exact⟨ret_bool (nmB_long s h16).symm,rfl⟩
  ·have hb0:((s.size:Int)==0)=false:=by rw[beq_eq_false_iff_ne];omega
   have hmid:=nmB_mid s (by omega) (by omega);have HM:Hid (nmB s=(isLet s[0].toNat && nmAll s.data.toList)):=hmid;clear hmid;by_cases hl:isLet s[0].toNat=true
   ·go_enter Tryz.func91,Tryz.ntmps91;go_wp2_with (first|(go_at_call 139;refine(isLetter_any _ _).mono ?_;rintro e w' ⟨rfl,rfl⟩))
    go_loop [20] (fun i=>∃k:Nat,k≤s.size∧i=.int .i64 k∧Hid (nmAll (s.data.toList.take k)=true)) (fun i=>s.size-(intOf i).toNat)
    case atStart=>exact⟨0,Nat.zero_le _,rfl,rfl⟩
    case round=>
     obtain⟨k,hk,rfl,ha⟩:=hrel;by_cases hlt:k<s.size
     ·have HS:Hid (nmAll (s.data.toList.take (k+1))=(nmAll (s.data.toList.take k) && nmC s[k].toNat)):=by
       rw[take_snoc s k hlt];exact nmAll_snoc _ _
      have HF:Hid (nmC s[k].toNat=false→nmAll s.data.toList=false):=nmAll_take s k hlt;go_wp2_with (first|(go_at_call 139;refine(isLetter_any _ _).mono ?_;rintro e w' ⟨rfl,rfl⟩)|(go_at_call 140;refine(isDigit_any _ _).mono ?_;rintro e w' ⟨rfl,rfl⟩))
      case roundEnd=>exact⟨⟨k+1,by omega,by go_num,by show nmAll _=true;rw[HS.out,ha.out];simp_all[nmC]⟩,by simp[intOf];omega⟩
      case roundEnd=>exact⟨⟨k+1,by omega,by go_num,by show nmAll _=true;rw[HS.out,ha.out];simp_all[nmC]⟩,by simp[intOf];omega⟩
      case roundEnd=>exact⟨⟨k+1,by omega,by go_num,by show nmAll _=true;rw[HS.out,ha.out];simp_all[nmC]⟩,by simp[intOf];omega⟩
      go_ret;exact⟨ret_bool (by rw[HM.out,HF.out (by simp_all[nmC])];simp),rfl⟩
     ·go_wp2;go_ret;refine⟨ret_bool ?_,rfl⟩;rw[HM.out,hl];have:=ha.out;rw[List.take_of_length_le (by simp;omega)]at this;simp[this]
   ·have hl':isLet s[0].toNat=false:=by simpa using hl
    go_enter Tryz.func91,Tryz.ntmps91;go_wp2_with (first|(go_at_call 139;refine(isLetter_any _ _).mono ?_;rintro e w' ⟨rfl,rfl⟩))
    go_ret;exact⟨ret_bool (by rw[HM.out,hl'];rfl),rfl⟩
end Go.Proofs.YtglihimiidiacaaGreatDoor
namespace Go.Proofs.YtglihimiidiacaaGreatDoor
open Go.RowKit
def altOk(a:LAlt):Bool:=decide (0≤a.tag) && decide (a.tag≤255) && decide (0≤a.tto) && decide (a.tto≤65535)
def altsUpto(l:List LAlt)(k:Nat):Prop:=(∀j (h:j<l.length),j<k→altOk l[j]=true)∧∀i j (hi:i<l.length) (hj:j<l.length),i<j→j<k→l[i].tag≠l[j].tag
theorem altsUpto_next(l:List LAlt)(k:Nat)(hk:k<l.length)(h:altsUpto l k)(ho:altOk l[k]=true)(hn:∀i (hi:i<l.length),i<k→l[i].tag≠l[k].tag):altsUpto l (k+1):=by
 refine⟨fun j hj hjk=>?_,fun i j hi hj hij hjk=>?_⟩
 ·by_cases e:j=k
  ·subst e;exact ho
  ·exact h.1 j hj (by omega)
 ·by_cases e:j=k
  ·subst e;exact hn i hi hij
  ·exact h.2 i j hi hj hij (by omega)
theorem altsUpto_zero(l:List LAlt):altsUpto l 0:=⟨fun _ _ h=>absurd h (by omega),fun _ _ _ _ _ h=>absurd h (by omega)⟩
def tagsApart:List LAlt→Bool
 |[]=>true
 |a::r=>r.all (fun b=>a.tag !=b.tag) && tagsApart r
def altsB(l:List LAlt):Bool:=l.all altOk && tagsApart l
theorem tagsApart_iff(l:List LAlt):tagsApart l=true↔l.Pairwise (fun a b=>a.tag≠b.tag):=by
 induction l with
 |nil=>simp[tagsApart]
 |cons a r ih=>simp[tagsApart,ih]
theorem altsB_iff(l:List LAlt):altsB l=true↔altsUpto l l.length:=by
 unfold altsB altsUpto;rw[Bool.and_eq_true,tagsApart_iff,List.pairwise_iff_getElem,List.all_eq_true];constructor
 ·rintro⟨h1,h2⟩;exact⟨fun j h _=>h1 _ (List.getElem_mem h),fun i j hi hj hij _=>h2 i j hi hj hij⟩
 ·rintro⟨h1,h2⟩;refine⟨fun x hx=>?_,fun i j hi hj hij=>h2 i j hi hj hij hj⟩;obtain⟨i,hi,rfl⟩:=List.mem_iff_getElem.1 hx;exact h1 i hi hi
theorem altsB_bad(l:List LAlt)(k:Nat)(hk:k<l.length)(h:altOk l[k]=false):altsB l=false:=by
 rw[Bool.eq_false_iff];intro h2;have:=((altsB_iff l).1 h2).1 k hk hk;rw[h]at this;cases this
theorem altsB_twice(l:List LAlt)(k:Nat)(hk:k<l.length)(h:∃i,∃(hi:i<l.length),i<k∧l[i].tag=l[k].tag):altsB l=false:=by
 rw[Bool.eq_false_iff];intro h2;obtain⟨i,hi,hik,e⟩:=h;exact((altsB_iff l).1 h2).2 i k hi hk hik hk e
theorem altOk_to{l:List LAlt}{k:Nat}{hk:k<l.length}{tto:Int}(e:l[k].tto=tto)(h:tto<0∨65535<tto):altOk l[k]=false:=by
 simp only[altOk,e,Bool.and_eq_false_iff,decide_eq_false_iff_not];omega
theorem altOk_tag{x:LAlt}(h:x.tag<0∨255<x.tag):altOk x=false:=by
 simp only[altOk,Bool.and_eq_false_iff,decide_eq_false_iff_not];omega
theorem zeroCells:Tryz.zeroCells413=Array.replicate 256 (.bool false):=by kernel_rfl
def Marks(w:World)(B:Nat)(l:List LAlt)(k:Nat):Prop:=
 B<w.heap.size∧∀t:Nat,t<256→w.frozen? ⟨B,t,none⟩=false∧∃s:Bool,w.cell? ⟨B,t,none⟩=some (.bool s)∧(s=true↔∃i,∃(h:i<l.length),i<k∧l[i].tag=t)
theorem Marks.zero(w:World)(l:List LAlt):Marks (w.alloc (.cells Tryz.zeroCells413 413)) w.heap.size l 0:=by
 refine⟨by simp,fun t ht=>⟨by simp,false,?_,?_⟩⟩
 ·rw[zeroCells];simp[ht]
 ·constructor
  ·intro h;cases h
  ·rintro⟨i,h,h2,_⟩;omega
theorem Marks.next{w:World}{B:Nat}{l:List LAlt}{k:Nat}(hk:k<l.length)(h:Marks w B l k)(t:Nat)(ht:t<256)(e:l[k].tag=t)(o:Obj):Marks ((w.setCell ⟨B,t,none⟩ (.bool true)).alloc o) B l (k+1):=by
 obtain⟨h1,h2⟩:=h;refine⟨by simp[World.setCell];omega,fun u hu=>?_⟩;obtain⟨hf,s,hs,hi⟩:=h2 u hu;have hb:Below (w.setCell ⟨B,t,none⟩ (.bool true)).heap.size (w.setCell ⟨B,t,none⟩ (.bool true)) ((w.setCell ⟨B,t,none⟩ (.bool true)).alloc o):=(Below.refl _ _).alloc (Nat.le_refl _) _;have hlt:B<(w.setCell ⟨B,t,none⟩ (.bool true)).heap.size:=by simp[World.setCell];omega
 refine⟨by rw[hb.frozen (p:=⟨B,u,none⟩) hlt];simpa using hf,?_⟩;by_cases hut:u=t
 ·subst hut;refine⟨true,?_,?_⟩
  ·rw[hb.cell (p:=⟨B,u,none⟩) hlt];exact World.cell?_setCell_same _ _ _ hs
  ·simp only[true_iff];exact⟨k,hk,by omega,e⟩
 ·refine⟨s,?_,?_⟩
  ·rw[hb.cell (p:=⟨B,u,none⟩) hlt,World.cell?_setCell_other _ _ _ _ (by intro h;simp at h)];exact hs
  ·rw[hi];constructor
   ·rintro⟨i,h,hik,he⟩;exact⟨i,h,by omega,he⟩
   ·rintro⟨i,h,hik,he⟩;refine⟨i,h,?_,he⟩;by_cases e2:i=k
    ·subst e2;omega
    ·omega
set_option maxHeartbeats 1000000 in
theorem goodAlts_mid(l:List LAlt)(v:Value)(w:World)(hA:AltsAt w v l)(h0:0<l.length)(h1:l.length≤256):
 Calls Tryz.prog 250 #[v] w fun e w'=>e=.returned (.bool (altsB l))∧Below w.heap.size w w':=by
 obtain⟨p,cap,rfl,hs1,hcell⟩:=hA.open;have HC:Hid (∀w',Below w.heap.size w w'→AltsIn w' p l):=hcell;clear hcell hA;have hb:((l.length:Int)==0)=false:=by rw[beq_eq_false_iff_ne];omega
 go_enter Tryz.func250,Tryz.ntmps250;go_wp2;go_loopw [16] (fun i wr=>∃k:Nat,k≤l.length∧i=.int .i64 k∧Hid (altsUpto l k)∧Hid (Marks wr w.heap.size l k)∧Below w.heap.size w wr) (fun i _=>l.length-(intOf i).toNat)
 case atStart=>exact⟨0,Nat.zero_le _,rfl,altsUpto_zero l,Marks.zero w l,(Below.refl _ _).alloc (Nat.le_refl _) _⟩
 case round=>
  obtain⟨k,hk,rfl,ha,hm,hb⟩:=hrel;by_cases hlt:k<l.length
  ·obtain⟨b,o,rfl,c0,c1⟩:=HC.out _ hb k hlt;have hz:=hm.out.1;by_cases ht:0≤l[k].tag∧l[k].tag≤255
   ·obtain⟨ht1,ht2⟩:=ht;obtain⟨hf,s,hsc,hsi⟩:=hm.out.2 l[k].tag.toNat (by omega);have HS:Hid (s=true↔∃i,∃(h:i<l.length),i<k∧l[i].tag=(l[k].tag.toNat:Int)):=hsi;clear hsi;generalize hto:l[k].tto=tto at*;generalize htg:l[k].tag=tg at*;have HTO:Hid (l[k].tto=tto):=hto;have HTG:Hid (l[k].tag=tg):=htg;clear hto htg;cases s
    ·go_wp2;any_goals
      go_ret;exact⟨ret_bool (altsB_bad l k hlt (altOk_to HTO.out (by omega))).symm,hb.alloc hb.size _⟩
     all_goals
      refine⟨⟨k+1,by omega,by go_num,altsUpto_next l k hlt ha.out ?_ ?_,Marks.next hlt hm.out tg.toNat (by omega) (by rw[HTG.out];omega) _,?_⟩,by simp[intOf];omega⟩
      ·simp only[altOk,HTO.out,HTG.out];simp;omega
      ·intro i hi hik he;have:=HS.out.2 ⟨i,hi,hik,by rw[he,HTG.out];omega⟩;cases this
      ·exact(hb.setCell (p:=⟨w.heap.size,tg.toNat,none⟩) (Nat.le_refl _) _).alloc (by have:=hb.size;simp[World.setCell];omega) _
    ·go_wp2;all_goals
      go_ret;refine⟨ret_bool (altsB_twice l k hlt ?_).symm,hb.alloc hb.size _⟩;obtain⟨i,hi,hik,he⟩:=HS.out.1 (by trivial);exact⟨i,hi,hik,by rw[he,HTG.out];omega⟩
   ·go_wp2;all_goals
     go_ret;exact⟨ret_bool (altsB_bad l k hlt (altOk_tag (by omega))).symm,hb.alloc hb.size _⟩
  ·go_wp2;go_ret;exact⟨ret_bool (((altsB_iff l).2 (by have:=ha.out;rw[show k=l.length by omega]at this;exact this))).symm,hb⟩
def altsGood(l:List LAlt):Bool:=decide (0<l.length) && decide (l.length≤256) && altsB l
set_option maxHeartbeats 1000000 in
theorem goodAlts_any(l:List LAlt)(v:Value)(w:World)(hA:AltsAt w v l):
 Calls Tryz.prog 250 #[v] w fun e w'=>e=.returned (.bool (altsGood l))∧Below w.heap.size w w':=by
 by_cases h0:0<l.length
 ·by_cases h1:l.length≤256
  ·have e:altsGood l=altsB l:=by simp[altsGood,h0,h1]
   rw[e];exact goodAlts_mid l v w hA h0 h1
  ·have e:altsGood l=false:=by simp[altsGood,h1]
   have HE:Hid (altsGood l=false):=e;clear e;obtain⟨p,cap,rfl,hs1,-⟩:=hA.open;clear hA;have hb:((l.length:Int)==0)=false:=by rw[beq_eq_false_iff_ne];omega
   go_enter Tryz.func250,Tryz.ntmps250;go_wp2;go_ret;exact⟨ret_bool HE.out.symm,Below.refl _ _⟩
 ·have e:altsGood l=false:=by simp[altsGood,h0]
  have HE:Hid (altsGood l=false):=e;clear e;obtain⟨p,cap,rfl,hs1,-⟩:=hA.open;clear hA;have hb:((l.length:Int)==0)=true:=by rw[beq_iff_eq];omega
  go_enter Tryz.func250,Tryz.ntmps250;go_wp2;go_ret;exact⟨ret_bool HE.out.symm,Below.refl _ _⟩
end Go.Proofs.YtglihimiidiacaaGreatDoor
namespace Go.Proofs.YtglihimiidiacaaGreatDoor
open Go.RowKit
def insG(op a:Int)(alts:List LAlt):Bool:=
 if 0≤op∧op<21 then
  if rowN op.toNat 0=1 then (alts.length:Int)==0
  else if rowN op.toNat 0=2 then ((alts.length:Int)==0) && decide (rowN op.toNat 1≤a) && decide (a≤rowN op.toNat 2)
  else if rowN op.toNat 0=3 then (a==0) && altsGood alts
  else (a==0) && ((alts.length:Int)==0)
 else false
set_option maxHeartbeats 1000000 in
theorem goodIns_any(op a:Int)(alts:List LAlt)(av:Value)(w:World)(hA:AltsAt w av alts)(hT:TabAt w):
 Calls Tryz.prog 215 #[.agg #[.int .i64 op,.int .i64 a,av]] w fun e w'=>e=.returned (.bool (insG op a alts))∧Below w.heap.size w w':=by
 obtain⟨p,cap,rfl,hs1,-⟩:=id hA;have hs2:=hs1.le;clear hs1;have HA:Hid (AltsAt w (.slice p alts.length cap) alts):=hA;clear hA;by_cases ho:0≤op∧op<21
 ·obtain⟨k,rfl⟩:=Int.eq_ofNat_of_zero_le ho.1;have hk:k<21:=by omega
  have HG:Hid (insG k a alts=if rowN k 0=1 then (alts.length:Int)==0 else if rowN k 0=2 then ((alts.length:Int)==0) && decide (rowN k 1≤a) && decide (a≤rowN k 2) else if rowN k 0=3 then (a==0) && altsGood alts else (a==0) && ((alts.length:Int)==0)):=by
   show _=_;simp only[insG];rw[if_pos ho];rfl
  have hx0:=cell_keep ((Below.refl _ _).alloc (Nat.le_refl _) (.cells #[.int .i64 k,.int .i64 a,.slice p alts.length cap] 152)) (hT.row k 0 hk (by omega));have hx1:=cell_keep ((Below.refl _ _).alloc (Nat.le_refl _) (.cells #[.int .i64 k,.int .i64 a,.slice p alts.length cap] 152)) (hT.row k 1 hk (by omega));have hx2:=cell_keep ((Below.refl _ _).alloc (Nat.le_refl _) (.cells #[.int .i64 k,.int .i64 a,.slice p alts.length cap] 152)) (hT.row k 2 hk (by omega));have HX0:Hid _:=hx0;have HX1:Hid _:=hx1;have HX2:Hid _:=hx2;clear hx0 hx1 hx2 hT;have hd:(decide ((0:Int)≤(k:Int)) && decide ((k:Int)<21))=true:=by simp;omega
  generalize rowN k 0=r0 at*;generalize rowN k 1=r1 at*;generalize rowN k 2=r2 at*;clear ho;have hd2:decide ((k:Int)<21)=true:=by simp;omega
  generalize hn:alts.length=n at*;have HN:Hid (alts.length=n):=hn;clear hn hd;go_enter Tryz.func215,Tryz.ntmps215;go_wp2_with (first|(go_at_call 248;refine(isOp_any _ _).mono ?_;rintro e w' ⟨rfl,rfl⟩)|(go_at_call 216;refine(kindOf_any k r0 _ hk HX0.out).mono ?_;rintro e w' ⟨rfl,rfl⟩)|(go_at_call 249;refine(bounds_any k r1 r2 _ hk HX1.out HX2.out).mono ?_;rintro e w' ⟨rfl,nd,rfl⟩)|(go_at_call 250;refine(goodAlts_any alts _ _ ?_).mono ?_;exact HA.out.keep ((Below.refl _ _).alloc (Nat.le_refl _) _);rintro e w' ⟨rfl,hb2⟩))
  all_goals
   go_ret;refine⟨ret_bool ?_,?_⟩
   ·rw[HG.out];clear HA HX0 HX1 HX2 HN HG;first|(simp_all;done)|(simp_all;omega)
   ·first|exact(Below.refl _ _).alloc (Nat.le_refl _) _|exact below_drewN ((Below.refl _ _).alloc (Nat.le_refl _) _) _|exact((Below.refl _ _).alloc (Nat.le_refl _) _).trans (hb2.mono (by simp))
 ·have HG:Hid (insG op a alts=false):=by show _=_;simp only[insG];rw[if_neg ho]
  have hd:(decide ((0:Int)≤op) && decide (op<21))=false:=by simp;omega
  go_enter Tryz.func215,Tryz.ntmps215;go_wp2_with (first|(go_at_call 248;refine(isOp_any _ _).mono ?_;rintro e w' ⟨rfl,rfl⟩))
  all_goals
   go_ret;exact⟨ret_bool HG.out.symm,(Below.refl _ _).alloc (Nat.le_refl _) _⟩
end Go.Proofs.YtglihimiidiacaaGreatDoor
namespace Go.Proofs.YtglihimiidiacaaGreatDoor
open Go.RowKit
theorem nodup_le:∀(n:Nat) (l:List Nat),l.Nodup→(∀x∈l,x<n)→l.length≤n
 |0,l,_,h=>by
  cases l with
  |nil=>simp
  |cons a r=>exact absurd (h a (by simp)) (by omega)
 |n+1,l,hd,h=>by
  have h1:(l.erase n).Nodup:=hd.erase n;have h2:∀x∈l.erase n,x<n:=fun x hx=>by
   have h3:=List.mem_of_mem_erase hx;have h4:x≠n:=fun e=>by subst e;exact(List.Nodup.not_mem_erase hd) hx
   have:=h x h3;omega
  have h5:=nodup_le n (l.erase n) h1 h2;by_cases hm:n∈l
  ·have:=List.length_erase_of_mem hm;omega
  ·rw[List.erase_of_not_mem hm]at h5;omega
theorem altsB_len(l:List LAlt)(h:altsB l=true):l.length≤256:=by
 obtain⟨h1,h2⟩:=(altsB_iff l).1 h;have hr:∀j (hj:j<l.length),0≤l[j].tag∧l[j].tag≤255:=fun j hj=>by
  have:=h1 j hj hj;simp only[altOk,Bool.and_eq_true,decide_eq_true_eq]at this;omega
 have:=nodup_le 256 (l.map fun a=>a.tag.toNat) ?_ ?_
 ·simpa using this
 ·rw[List.nodup_iff_pairwise_ne,List.pairwise_iff_getElem];intro i j hi hj hij;simp only[List.length_map]at hi hj;have a1:=h2 i j hi hj hij hj;have a2:=hr i hi;have a3:=hr j hj;simp only[List.getElem_map];omega
 ·intro x hx;obtain⟨a,ha,rfl⟩:=List.mem_map.1 hx;obtain⟨i,hi,rfl⟩:=List.mem_iff_getElem.1 ha;have:=hr i hi;omega
theorem altsGood_eq(l:List LAlt):altsGood l=(altsB l && decide (0<l.length)):=by
 unfold altsGood;cases h:altsB l with
 |true=>simp[altsB_len l h]
 |false=>simp
theorem insG_row(k:Nat)(hk:k<21)(a:Int)(alts:List LAlt):insG k a alts=
 if rowN k 0=1 then (alts.length:Int)==0 else if rowN k 0=2 then ((alts.length:Int)==0) && decide (rowN k 1≤a) && decide (a≤rowN k 2) else if rowN k 0=3 then (a==0) && altsGood alts else (a==0) && ((alts.length:Int)==0):=by
 simp only[insG];rw[if_pos (by omega)];rfl
theorem bd_facts(k:Nat)(hk:k<21)(h17:k≠17):
 (rowN k 0=2∧(if k=7 then (1:Int) else if rowN k 0=2 then 0 else 1)=rowN k 1∧(if rowN k 0=2 then rowN k 2 else 0)=rowN k 2∧rowN k 1≤rowN k 2∧k≠0)∨k=0∨
 (rowN k 0=0∧(if k=7 then (1:Int) else if rowN k 0=2 then 0 else 1)=1∧(if rowN k 0=2 then rowN k 2 else 0)=0∧k≠0):=by
 rcases all21 k hk with rfl|rfl|rfl|rfl|rfl|rfl|rfl|rfl|rfl|rfl|rfl|rfl|rfl|rfl|rfl|rfl|rfl|rfl|rfl|rfl|rfl;all_goals first|(exact absurd rfl h17)|decide
end Go.Proofs.YtglihimiidiacaaGreatDoor
namespace Go.Proofs.YtglihimiidiacaaGreatDoor
open Go.RowKit Go.Sort
def fA(a:Int):Nat:=if 0≤a then (2*a).toNat else (-2*a-1).toNat
def altBytes(l:List LAlt):List Nat:=l.flatMap fun x=>vb x.tag.toNat++vb x.tto.toNat
def wb(x:LIns):List Nat:=x.op.toNat::(if x.op=0 then vb (fA x.a) else if x.op=17 then vb x.alts.length++altBytes x.alts else if rowN x.op.toNat 0=2 then vb x.a.toNat else [])
theorem Buf.low{w:World}{B B':Nat}{v:Value}{bs:List Nat}(h:Buf w B v bs)(hl:B'≤B):Buf w B' v bs:=by
 refine⟨h.1,?_⟩;rcases h.2 with h|⟨g,cap,cur,e,hb,h⟩
 ·exact Or.inl h
 ·exact Or.inr ⟨g,cap,cur,e,by omega,h⟩
theorem vb_pos(n:Nat):0<(vb n).length:=by
 by_cases h:n<128
 ·rw[vb_small h];simp
 ·rw[vb_big h];simp
theorem Buf.cellsOf{w:World}{B g n c:Nat}{bs:List Nat}(h:Buf w B (.slice (some ⟨g,0,none⟩) n c) bs):∀j u,(u8s bs)[j]?=some u→w.cell? ((⟨g,0,none⟩:Addr).add j)=some u:=World.ownsRow.cells h rfl
theorem altBytes_snoc(l:List LAlt)(j:Nat)(hj:j<l.length):altBytes (l.take (j+1))=altBytes (l.take j)++vb l[j].tag.toNat++vb l[j].tto.toNat:=by
 rw[List.take_succ_eq_append_getElem hj];unfold altBytes;rw[List.flatMap_append,List.append_assoc];congr 1
 simp only[List.flatMap_cons,List.flatMap_nil,List.append_nil]
end Go.Proofs.YtglihimiidiacaaGreatDoor
namespace Go.Proofs.YtglihimiidiacaaGreatDoor
def cP:BitVec 32:=0x04C11DB7#32
def cPr:BitVec 32:=0xEDB88320#32
def cT(r:BitVec 32):BitVec 32:=(r<<<1) ^^^ (if r.getLsbD 31 then cP else 0#32)
def cR(r:BitVec 32):BitVec 32:=(r>>>1) ^^^ (if r.getLsbD 0 then cPr else 0#32)
def cB(b:Bool):BitVec 32:=if b then 1#32 else 0#32
def iterR:Nat→BitVec 32→BitVec 32
 |0,r=>r
 |n+1,r=>cR (iterR n r)
def regP(s:List UInt8):Nat→BitVec 32
 |0=>0xFFFFFFFF#32
 |i+1=>iterR 8 (regP s i ^^^ BitVec.ofNat 32 (s.getD i 0).toNat)
theorem prog_step(c:BitVec 32):(cR c).toNat=if c.toNat % 2=1 then (c.toNat / 2) ^^^ 3988292384 else c.toNat / 2:=by
 unfold cR;have h0:c.getLsbD 0=decide (c.toNat % 2=1):=by rw[BitVec.getLsbD,Nat.testBit_zero]
 rw[BitVec.toNat_xor,BitVec.toNat_ushiftRight,h0,Nat.shiftRight_eq_div_pow];by_cases h:c.toNat % 2=1
 ·simp only[h,decide_true,if_true];rfl
 ·simp[h]
def crc(s:List UInt8):Nat:=(~~~ regP s s.length).toNat
theorem crc_lt(s:List UInt8):crc s<4294967296:=(~~~ regP s s.length).isLt
end Go.Proofs.YtglihimiidiacaaGreatDoor
namespace Go.Proofs.YtglihimiidiacaaGreatDoor
open Go.RowKit
theorem wrapU64(n:Nat)(h:n<18446744073709551616):IntKind.u64.wrap (n:Int)=(n:Int):=by
 simp only[IntKind.wrap,IntKind.signed,IntKind.bits];simp;omega
theorem list_at(s:ByteArray)(i:Nat)(h:i<s.size):s.data.toList.getD i 0=s[i]:=by
 rw[List.getD,List.getElem?_eq_getElem (by rw[Array.length_toList];exact h)];rfl
end Go.Proofs.YtglihimiidiacaaGreatDoor
namespace Go.Proofs.YtglihimiidiacaaGreatDoor
open Go.RowKit
theorem bits_xor_u32_nat(a b:Nat)(ha:a<4294967296)(hb:b<4294967296):bits .xor .u32 (a:Int) (b:Int)=((a ^^^ b:Nat):Int):=by
 have hx:a ^^^ b<2 ^ 32:=Nat.xor_lt_two_pow (by omega) (by omega);have h1:(BitVec.ofInt 32 (a:Int)).toNat=a:=by
  rw[BitVec.ofInt_natCast,BitVec.toNat_ofNat];exact Nat.mod_eq_of_lt (by omega)
 have h2:(BitVec.ofInt 32 (b:Int)).toNat=b:=by
  rw[BitVec.ofInt_natCast,BitVec.toNat_ofNat];exact Nat.mod_eq_of_lt (by omega)
 show IntKind.u32.wrap ((BitVec.ofInt 32 (a:Int) ^^^ BitVec.ofInt 32 (b:Int)).toNat:Int)=_;rw[BitVec.toNat_xor,h1,h2];simp only[IntKind.wrap,IntKind.signed,IntKind.bits];simp;omega
theorem bits_and_u32_one(a:Nat)(ha:a<4294967296):bits .and .u32 (a:Int) 1=((a % 2:Nat):Int):=by
 have h1:(BitVec.ofInt 32 (a:Int)).toNat=a:=by
  rw[BitVec.ofInt_natCast,BitVec.toNat_ofNat];exact Nat.mod_eq_of_lt (by omega)
 show IntKind.u32.wrap ((BitVec.ofInt 32 (a:Int) &&& BitVec.ofInt 32 1).toNat:Int)=_;rw[BitVec.toNat_and,h1,show(BitVec.ofInt 32 1).toNat=1 from rfl,Nat.and_one_is_mod];simp only[IntKind.wrap,IntKind.signed,IntKind.bits];simp;omega
theorem crc_not(s:List UInt8):crc s=4294967295 ^^^ (regP s s.length).toNat:=by
 unfold crc;rw[BitVec.not_def,BitVec.toNat_xor];rfl
set_option maxRecDepth 100000 in
set_option maxHeartbeats 8000000 in
theorem sum_any(s:ByteArray)(w:World)(hs:s.size<1099511627776):
 Calls Tryz.prog 98 #[.string s] w fun e w'=>e=.returned (.int .u32 (crc s.data.toList))∧Below w.heap.size w w':=by
 have hl:s.data.toList.length=s.size:=by rw[Array.length_toList];rfl
 go_enter Tryz.func98,Tryz.ntmps98;go_wp2;go_loopw [3,8] (fun c k wr=>∃i:Nat,i≤s.size∧k=.int .i64 i∧c=.int .u32 ((regP s.data.toList i).toNat:Nat)∧Below w.heap.size w wr) (fun _ k _=>s.size-(intOf k).toNat)
 case atStart=>exact⟨0,Nat.zero_le _,rfl,rfl,Below.refl _ _⟩
 case round=>
  obtain⟨i,hi,rfl,rfl,hb⟩:=hrel;rename World=>wB
  by_cases hlt:i<s.size
  ·have hlt':(i:Int)<(s.size:Int):=by omega
   have h0:(0:Int)≤(i:Int):=by omega
   have hC:=(regP s.data.toList i).isLt;have hby:s[i].toNat<256:=s[i].toNat_lt;have hx:bits .xor .u32 ((regP s.data.toList i).toNat:Int) (s[i].toNat:Int)=(((regP s.data.toList i ^^^ BitVec.ofNat 32 (s.data.toList.getD i 0).toNat).toNat:Nat):Int):=by
    rw[bits_xor_u32_nat _ _ (by omega) (by omega),BitVec.toNat_xor,BitVec.toNat_ofNat,list_at s i hlt,Nat.mod_eq_of_lt (by omega)]
   have HN:Hid (regP s.data.toList (i+1)=iterR 8 (regP s.data.toList i ^^^ BitVec.ofNat 32 (s.data.toList.getD i 0).toNat)):=rfl;generalize regP s.data.toList i ^^^ BitVec.ofNat 32 (s.data.toList.getD i 0).toNat=X at*;generalize (regP s.data.toList i).toNat=C at*;go_wp2;go_loopw [3,17] (fun c k wr=>∃j:Nat,j≤8∧k=.int .i64 j∧c=.int .u32 ((iterR j X).toNat:Nat)∧Below w.heap.size w wr) (fun _ k _=>8-(intOf k).toNat)
   case atStart=>exact⟨0,Nat.zero_le _,rfl,rfl,hb⟩
   case round=>
    obtain⟨j,hj,rfl,rfl,hb2⟩:=hrel;rename World=>wD
    by_cases hjt:j<8
    ·have hjt':(j:Int)<8:=by omega
     have hst:=prog_step (iterR j X);have HST:Hid ((iterR (j+1) X).toNat=if (iterR j X).toNat % 2=1 then ((iterR j X).toNat / 2) ^^^ 3988292384 else (iterR j X).toNat / 2):=hst;have hD:=(iterR j X).isLt;clear hst;generalize (iterR j X).toNat=D at*;have ha:=bits_and_u32_one D (by omega);by_cases hodd:D % 2=1
     ·rw[hodd]at ha;have hx2:=bits_xor_u32_nat (D / 2) 3988292384 (by omega) (by omega);simp only[Int.natCast_ediv]at hx2;go_wp2;exact⟨⟨j+1,by omega,by go_num,by rw[HST.out,if_pos hodd,←hx2];rfl,hb2⟩,by simp[intOf];omega⟩
     ·rw[show D % 2=0 by omega]at ha;go_wp2;exact⟨⟨j+1,by omega,by go_num,by rw[HST.out,if_neg hodd];simp,hb2⟩,by simp[intOf];omega⟩
    ·have e:j=8:=by omega
     subst e;go_wp2;exact⟨⟨i+1,by omega,by go_num,by rw[HN.out],hb2⟩,by simp[intOf];omega⟩
  ·have e:i=s.size:=by omega
   subst e;have HC:=hid (crc_not s.data.toList);rw[hl]at HC;have hC:=(regP s.data.toList s.size).isLt;generalize (regP s.data.toList s.size).toNat=C at*;go_wp2;go_ret;refine⟨?_,hb⟩;have:=bits_xor_u32_nat 4294967295 C (by omega) (by omega);rw[HC.out];exact congrArg (fun z=>Ending.returned (.int .u32 z)) this
end Go.Proofs.YtglihimiidiacaaGreatDoor
