import Derived.Test.YtcpcplaeaimmpaaGreatDoorShJ
set_option maxRecDepth 100000
set_option maxHeartbeats 4000000
namespace Go.Proofs.YtcpcplaeaimmpaaGreatDoor
open Go.RowKit Go.Sort
theorem ret_b{a b:Bool}(h:a=b):Ending.returned (.bool a)=.returned (.bool b):=by rw[h]
theorem numB_false_zero{d:ByteArray}(h:zeroB d=true)(h1:1<d.size):numB d=false:=by unfold numB;simp[h,h1]
theorem lit_beq(s t:ByteArray):decide (s=t)=(s.toList==t.toList):=by
 by_cases h:s=t
 ·subst h;simp
 ·rw[decide_eq_false h];symm;rw[beq_eq_false_iff_ne];exact λe=>h (toL_inj e)
def digsF(d:ByteArray)(k:Nat):Bool:=digsL (d.data.toList.drop k)
theorem digsF_step{d:ByteArray}{k:Nat}(h:k<d.size):digsF d k=(digN d[k].toNat && digsF d (k+1)):=by
 unfold digsF digsL;have hl:k<d.data.toList.length:=by simpa using h
 rw[List.drop_eq_getElem_cons hl,List.all_cons];rfl
theorem digsF_end(d:ByteArray):digsF d d.size=true:=by
 unfold digsF;rw[List.drop_eq_nil_of_le (by simp)];rfl
theorem isDigits_any(d:ByteArray)(w:World)(hs:d.size<=2000):Calls Tryz.prog 231 #[.string d] w λe w'=>e=.returned (.bool (numB d))∧w'=w:=by
 by_cases h0:d.size=0
 ·obtain rfl:d=⟨#[]⟩:=ByteArray.ext (Array.eq_empty_of_size_eq_zero h0);go_enter Tryz.func231,Tryz.ntmps231;go_wp2;all_goals
   go_ret;exact⟨ret_b (by decide),rfl⟩
 ·have hl:0<d.size:=by omega
  have b0:(d.toList==([]:List UInt8))=false:=by
   rw[beq_eq_false_iff_ne];intro e;have h1:d.toList.length=d.size:=by rw[ByteArray.toList_eq];simp
   rw[e]at h1;simp at h1;omega
  have hz:zeroB d=decide (d[0].toNat=48):=by unfold zeroB;rw[getElem?_pos d 0 hl]
  have i0:(0:Int)<(d.size:Int):=by omega
  by_cases hA:zeroB d=true∧1<d.size
  ·have HN:=hid (numB_false_zero hA.1 hA.2);have e1:((d[0].toNat:Int)==48)=true:=by
    rw[hz]at hA;rw[beq_iff_eq];have:=of_decide_eq_true hA.1;omega
   have i1:(1:Int)<(d.size:Int):=by omega
   clear hz hA;go_enter Tryz.func231,Tryz.ntmps231;go_wp2;all_goals
    go_ret;exact⟨ret_b HN.out.symm,rfl⟩
  ·have HN:Hid (numB d=digsF d 0):=by
    show _=_;unfold numB digsF;rw[List.drop_zero];have:(zeroB d && decide (1<d.size))=false:=by
     rw[Bool.and_eq_false_iff];by_cases hz1:zeroB d=true
     ·exact Or.inr (decide_eq_false λh=>hA ⟨hz1,h⟩)
     ·exact Or.inl (by simpa using hz1)
    rw[this];simp[hl]
   have hB:¬d[0].toNat=48∨d.size=1:=by
    by_cases h48:d[0].toNat=48
    ·refine Or.inr ?_;have:¬1<d.size:=λh=>hA ⟨by rw[hz];simp[h48],h⟩;omega
    ·exact Or.inl h48
   clear hz hA;have e1:((d[0].toNat:Int)==48)=false∨((d[0].toNat:Int)==48)=true∧d.size=1:=by
    by_cases h48:d[0].toNat=48
    ·exact Or.inr ⟨by rw[beq_iff_eq];omega,by rcases hB with h|h;exact absurd h48 h;exact h⟩
    ·exact Or.inl (by rw[beq_eq_false_iff_ne];omega)
   clear hB;rcases e1 with e1|⟨e1,hs1⟩;all_goals
    go_enter Tryz.func231,Tryz.ntmps231;go_wp2;go_loop [18] (λi=>∃k:Nat,k<=d.size∧i=.int .i64 k∧Hid (digsF d 0=digsF d k)) (λi=>d.size-(intOf i).toNat)
    case atStart=>exact⟨0,Nat.zero_le _,rfl,rfl⟩
    case round=>
     obtain⟨k,hk,rfl,HA⟩:=hrel;by_cases hlt:k<d.size
     ·have h1:(0:Int)<=(k:Int):=by omega
      have h2:(k:Int)<(d.size:Int):=by omega
      have HS:=hid (digsF_step hlt);cases hd:digN d[k].toNat with
      |true=>
       have hd2:48<=d[k].toNat∧d[k].toNat<=57:=by simp only[digN,Bool.and_eq_true,decide_eq_true_eq]at hd;exact hd
       have j1:¬(d[k].toNat:Int)<48:=by omega
       have j2:¬(57:Int)<(d[k].toNat:Int):=by omega
       have HD:=hid hd;clear hd;go_wp2;exact⟨⟨k+1,by omega,by go_num,by show _=_;rw[HA.out,HS.out,HD.out];rfl⟩,by simp[intOf];omega⟩
      |false=>
       have hd2:d[k].toNat<48∨57<d[k].toNat:=by
        simp only[digN,Bool.and_eq_false_iff,decide_eq_false_iff_not]at hd;omega
       have HD:=hid hd;clear hd;by_cases j1:(d[k].toNat:Int)<48
       ·go_wp2;all_goals
         go_ret;exact⟨ret_b (by rw[HN.out,HA.out,HS.out,HD.out];rfl),rfl⟩
       ·have j2:(57:Int)<(d[k].toNat:Int):=by omega
        go_wp2;all_goals
         go_ret;exact⟨ret_b (by rw[HN.out,HA.out,HS.out,HD.out];rfl),rfl⟩
     ·obtain rfl:k=d.size:=by omega
      have hge:¬(d.size:Int)<(d.size:Int):=by omega
      go_wp2;go_ret;exact⟨ret_b (by rw[HN.out,HA.out,digsF_end]),rfl⟩
theorem resL(s:ByteArray):isRes s 0=((s.toList==[109,111,100,117,108,101])||((s.toList==[105,109,112,111,114,116])||((s.toList==[100,101,102])||((s.toList==[108,101,116])||((s.toList==[108,101,116,114,101,99])||((s.toList==[99,111,110])||(s.toList==[99,97,115,101]))))))):=by
 unfold isRes resv;simp only[List.drop_zero,List.any_cons,List.any_nil,lit_beq,Bool.or_false,ByteArray.toList_eq]
theorem isReserved_any(s:ByteArray)(w:World):Calls Tryz.prog 143 #[.string s] w λe w'=>e=.returned (.bool (isRes s 0))∧w'=w:=by
 have HR:=hid (resL s);go_enter Tryz.func143,Tryz.ntmps143;go_wp2;all_goals
  go_ret;refine⟨ret_b ?_,rfl⟩;rw[HR.out];simp_all
theorem idx_neg(l:List UInt8)(c:UInt8):decide (0<=Lib.indexByte l c)=l.any λb=>b==c:=by
 induction l with
 |nil=>rfl
 |cons b r ih=>
  rw[Lib.indexByte,List.any_cons];cases hb:b==c with
  |true=>simp
  |false=>
   rw[if_neg (by simp),Bool.false_or,<-ih];have hg:-1<=Lib.indexByte r c:=by
    clear ih hb;induction r with
    |nil=>rw[Lib.indexByte];decide
    |cons x y ih=>
     rw[Lib.indexByte];split
     ·decide
     ·split
      ·decide
      ·omega
   by_cases h:Lib.indexByte r c==-1
   ·rw[if_pos h];have:=eq_of_beq h;rw[this]
   ·rw[if_neg h];have hne:Lib.indexByte r c≠-1:=λe=>h (by rw[e];rfl);have h1:(0:Int)<=Lib.indexByte r c:=by omega
    rw[decide_eq_true h1,decide_eq_true (by omega)]
theorem chk_all(s:ByteArray):∀(n k:Nat),s.size-k<=n->0<k->chk s k=(s.data.toList.drop k).all λc=>lowN c.toNat||digN c.toNat
 |0,k,hn,hk=>by
  rw[chk_end (by omega),List.drop_eq_nil_of_le (by simp;omega)];rfl
 |n+1,k,hn,hk=>by
  by_cases h:k<s.size
  ·have hl:k<s.data.toList.length:=by simpa using h
   rw[chk_step h,chk_all s n (k+1) (by omega) (by omega),List.drop_eq_getElem_cons hl,List.all_cons];have:decide (k≠0)=true:=decide_eq_true (by omega);rw[this,Bool.true_and];rfl
  ·rw[chk_end (by omega),List.drop_eq_nil_of_le (by simp;omega)];rfl
theorem isLet_low(c:UInt8):isLet (c.toNat:Int)=lowN c.toNat:=by
 unfold isLet lowN;congr 1
 ·rw[decide_eq_decide];omega
 ·rw[decide_eq_decide];omega
theorem isDig_dig(c:UInt8):isDig (c.toNat:Int)=digN c.toNat:=by
 unfold isDig digN;congr 1
 ·rw[decide_eq_decide];omega
 ·rw[decide_eq_decide];omega
theorem word_nm(s:ByteArray):(nmB s && decide (s.size<=10) && !(s.data.toList.any λb=>b==35) && !isRes s 0)=wordB s:=by
 unfold wordB;by_cases h0:0<s.size
 ·by_cases h10:s.size<=10
  ·rw[nmB_mid s h0 (by omega),decide_eq_true h0,decide_eq_true h10,Bool.and_true,Bool.and_true,Bool.and_true];have hc:(isLet s[0].toNat && nmAll s.data.toList && !(s.data.toList.any λb=>b==35))=chk s 0:=by
    have hl:0<s.data.toList.length:=by simpa using h0
    have e:s.data.toList=s[0]::s.data.toList.drop 1:=by
     have:=List.drop_eq_getElem_cons hl;rw[List.drop_zero]at this;exact this
    rw[chk_step h0,chk_all s _ 1 (Nat.le_refl _) (by omega)];simp only[ne_eq,not_true_eq_false,decide_false,Bool.false_and,Bool.or_false];conv=>lhs;rw[e]
    rw[isLet_low];cases hlow:lowN s[0].toNat with
    |false=>rfl
    |true=>
     have h35:(s[0]==35)=false:=by
      rw[beq_eq_false_iff_ne];intro e2;rw[e2]at hlow;exact absurd hlow (by decide)
     unfold nmAll;rw[List.all_cons,List.any_cons,h35,Bool.false_or,Bool.true_and];have hn:nmC (s[0].toNat:Int)=true:=by unfold nmC;rw[isLet_low,hlow];rfl
     rw[hn,Bool.true_and,Bool.true_and];generalize s.data.toList.drop 1=r;induction r with
     |nil=>rfl
     |cons c q ih=>
      rw[List.all_cons,List.any_cons,List.all_cons,<-ih];have hx:nmC (c.toNat:Int)=(lowN c.toNat||digN c.toNat||(c==35)):=by
       unfold nmC;rw[isLet_low,isDig_dig];congr 1
       rw[Bool.eq_iff_iff,beq_iff_eq,beq_iff_eq];constructor
       ·intro h;exact UInt8.toNat_inj.1 (by have:c.toNat=35:=by omega
         rw[this];rfl)
       ·intro h;rw[h];rfl
      rw[hx];cases hc35:c==35 with
      |false=>cases lowN c.toNat<;>cases digN c.toNat<;>simp
      |true=>
       have:c=35:=eq_of_beq hc35;subst this;have h1:lowN (35:UInt8).toNat=false:=by decide
       have h2:digN (35:UInt8).toNat=false:=by decide
       rw[h1,h2];simp
   rw[<-hc]
  ·rw[decide_eq_false h10,Bool.and_false,Bool.and_false];rfl
 ·rw[decide_eq_false h0,nmB_zero s (by omega)];simp
theorem synName_any(s:ByteArray)(w:World)(hs:s.size<=2000):Calls Tryz.prog 109 #[.string s] w λe w'=>e=.returned (.bool (wordB s))∧w'=w:=by
 have HW:Hid (wordB s=(nmB s && decide (s.size<=10) && !(s.data.toList.any λb=>b==35) && !isRes s 0)):=(word_nm s).symm;have HC:Hid (∀w,Calls Tryz.prog 129 #[.string s,.string ⟨#[35]⟩] w λe w'=>e=.returned (.bool (s.data.toList.any λb=>b==35))∧w'=w):=by
  intro w;have h:=Any.strings_Contains_one Tryz.lays144 s 35 w;rw[idx_neg]at h;exact h
 generalize hx:(s.data.toList.any λb=>b==35)=x at*;clear hx;generalize hv:wordB s=v at*;clear hv;by_cases h10:s.size<=10
 ·have i1:(s.size:Int)<=10:=by omega
  have D10:=decide_eq_true h10;go_enter Tryz.func109,Tryz.ntmps109;go_wp2_with (first
   |(go_at_call 36;refine(IsName_any _ _ (by unfold maxLen;omega)).mono ?_;rintro e w' ⟨rfl,rfl⟩)
   |(go_at_call 129;refine(HC.out _).mono ?_;rintro e w' ⟨rfl,rfl⟩)
   |(go_at_call 143;refine(isReserved_any _ _).mono ?_;rintro e w' ⟨rfl,rfl⟩))
  all_goals
   go_ret;refine⟨ret_b ?_,rfl⟩;rw[HW.out,D10];simp_all
 ·have i1:¬(s.size:Int)<=10:=by omega
  have D10:=decide_eq_false h10;go_enter Tryz.func109,Tryz.ntmps109;go_wp2_with (first
   |(go_at_call 36;refine(IsName_any _ _ (by unfold maxLen;omega)).mono ?_;rintro e w' ⟨rfl,rfl⟩)
   |(go_at_call 129;refine(HC.out _).mono ?_;rintro e w' ⟨rfl,rfl⟩)
   |(go_at_call 143;refine(isReserved_any _ _).mono ?_;rintro e w' ⟨rfl,rfl⟩))
  all_goals
   go_ret;refine⟨ret_b ?_,rfl⟩;rw[HW.out,D10];simp_all
def WNum(r:Option Int)(w:World)(e:Ending)(w':World):Prop:=Below w.heap.size w w'∧∃n:Int,e=.returned (.tuple #[.int .i64 n,.bool r.isSome])∧∀v,r=some v->n=v
theorem WNum.none{w w':World}{n:Int}{b:Bool}(hb:Below w.heap.size w w')(h:b=false):WNum none w (.returned (.tuple #[.int .i64 n,.bool b])) w':=⟨hb,n,by rw[h];rfl,λv e=>by cases e⟩
theorem WNum.some{w w':World}{n:Int}{b:Bool}(hb:Below w.heap.size w w')(h:b=true):WNum (some n) w (.returned (.tuple #[.int .i64 n,.bool b])) w':=⟨hb,n,by rw[h];rfl,λv e=>by cases e;rfl⟩
theorem below_bytes{w w':World}{t:TypeId}(h:w'=w∨∃x,w'=Lib.bytesWorld w t x):Below w.heap.size w w':=by
 rcases h with rfl|⟨x,rfl⟩
 ·exact Below.refl _ _
 ·exact Joins.below_bytesWorld _ w t x (Nat.le_refl _)
theorem pnumber_any{w:World}{adr:Nat->Addr}(s:ByteArray)(hs:s.size<=2000)(hS:SY w adr):Calls Tryz.prog 186 #[.string s] w λe w'=>WNum (wholeP s) w e w':=by
 have HT:Hid (∀w,Calls Tryz.prog 232 #[.string s,.string ⟨#[45]⟩] w λe w'=>e=.returned (.string (absP s))∧w'=w):=by
  intro w;have h:=Any.strings_TrimPrefix Tryz.lays101 s ⟨#[45]⟩ w;rw[trim_abs]at h;exact h
 have ha:(absP s).size<=2000:=by
  unfold absP;split
  ·rw[ByteArray.size_extract];omega
  ·exact hs
 have HD:=hid (λw=>isDigits_any (absP s) w ha);have hz:mZero.toList=[45,48]:=by rw[ByteArray.toList_eq];rfl
 by_cases hb:numB (absP s)=false∨s=mZero
 ·have HW:=hid (whole_bad hb);have hb2:numB (absP s)=false∨(s.toList==[45,48])=true:=by
   rcases hb with h|h
   ·exact Or.inl h
   ·exact Or.inr (by rw[h,hz];rfl)
  clear hb hS;rw[HW.out];generalize numB (absP s)=nb at*;rcases hb2 with h|h;all_goals
   go_enter Tryz.func186,Tryz.ntmps186;go_wp2_with (first
    |(go_at_call 232;refine(HT.out _).mono ?_;rintro e w' ⟨rfl,rfl⟩)
    |(go_at_call 231;refine(HD.out _).mono ?_;rintro e w' ⟨rfl,rfl⟩))
   all_goals
    go_ret2
    exact WNum.none (Below.refl _ _) rfl
 ·have hn:numB (absP s)=true:=by cases h:numB (absP s) with|true=>rfl|false=>exact absurd (Or.inl h) hb
  have hm:s≠mZero:=λh=>hb (Or.inr h);have hp:=whole_num hn hm;have e45:(s.toList==[45,48])=false:=by
   rw[beq_eq_false_iff_ne];intro e;exact hm (toL_inj (by rw[e,hz]))
  rw[hn]at HD;clear hb hn hm;cases hw:wholeP s with
  |some v=>
   rw[hw]at hp;have HP:=hid (λw=>Any.strconv_ParseInt_10_at64_ok Tryz.laysC174 s (by omega) v hp w);clear hp hw hS;go_enter Tryz.func186,Tryz.ntmps186;go_wp2_with (first
    |(go_at_call 232;refine(HT.out _).mono ?_;rintro e w' ⟨rfl,rfl⟩)
    |(go_at_call 231;refine(HD.out _).mono ?_;rintro e w' ⟨rfl,rfl⟩)
    |(go_at_call 233;refine(HP.out _).mono ?_;rintro e w1 ⟨rfl,hb1⟩;have HB1:=hid (below_bytes hb1);clear hb1))
   go_quiet (fail);go_wp2;have hbq:=below_drewN (Below.refl w1.heap.size w1) nq;go_ret2
   exact WNum.some (HB1.out.trans (hbq.mono HB1.out.size)) rfl
  |none=>
   rw[hw]at hp;obtain⟨ev,hv,hev⟩:=hS.er;have HP:=hid (λw hv=>Any.strconv_ParseInt_10_at64_range Tryz.laysC174 s (by omega) hp ev w hv hev);clear hp hw hS hev;go_enter Tryz.func186,Tryz.ntmps186;go_wp2_with (first
    |(go_at_call 232;refine(HT.out _).mono ?_;rintro e w' ⟨rfl,rfl⟩)
    |(go_at_call 231;refine(HD.out _).mono ?_;rintro e w' ⟨rfl,rfl⟩)
    |(go_at_call 233;refine(HP.out _ hv).mono ?_;rintro e w1 ⟨N,rfl,-,-,hb1⟩;have HB1:=hid hb1;clear hb1))
   go_quiet (fail);go_wp2;have hbq:=below_drewN (Below.refl w1.heap.size w1) nq;go_ret2
   exact WNum.none (HB1.out.trans (hbq.mono HB1.out.size)) rfl
def upP(t:ByteArray)(most:Nat):Option Int:=match wholeP t with|some v=>if 0<=v∧v<=(most:Int) then some v else none|none=>none
theorem upTo_any{w:World}{adr:Nat->Addr}(s:ByteArray)(most:Nat)(hs:s.size<=2000)(hS:SY w adr):Calls Tryz.prog 184 #[.string s,.int .i64 (most:Int)] w λe w'=>WNum (upP s most) w e w':=by
 have HN:=hid (pnumber_any s hs hS);have HU:Hid (upP s most=match wholeP s with|some v=>if 0<=v∧v<=(most:Int) then some v else none|none=>none):=rfl;clear hS;cases hw:wholeP s with
 |none=>
  rw[hw]at HN HU;rw[HU.out];clear hw;go_enter Tryz.func184,Tryz.ntmps184;go_wp2_with (first
   |(go_at_call 186;refine HN.out.mono ?_;rintro e w1 ⟨hb1,n,rfl,-⟩;have HB1:=hid hb1;clear hb1;simp only[Option.isSome_none]))
  go_ret2
  exact WNum.none HB1.out rfl
 |some v=>
  rw[hw]at HN HU;clear hw;by_cases hr:0<=v∧v<=(most:Int)
  ·rw[HU.out];simp only[hr,and_self,if_true];obtain⟨hr1,hr2⟩:=hr;go_enter Tryz.func184,Tryz.ntmps184;go_wp2_with (first
    |(go_at_call 186;refine HN.out.mono ?_;rintro e w1 ⟨hb1,n,rfl,hn⟩;obtain rfl:=hn v rfl;have HB1:=hid hb1;clear hb1 hn;simp only[Option.isSome_some]))
   go_ret2
   exact WNum.some HB1.out rfl
  ·rw[HU.out];simp only[hr,if_false];by_cases hr1:0<=v
   ·have hr2:¬v<=(most:Int):=λh=>hr ⟨hr1,h⟩;clear hr;go_enter Tryz.func184,Tryz.ntmps184;go_wp2_with (first
     |(go_at_call 186;refine HN.out.mono ?_;rintro e w1 ⟨hb1,n,rfl,hn⟩;obtain rfl:=hn v rfl;have HB1:=hid hb1;clear hb1 hn;simp only[Option.isSome_some]))
    go_ret2
    exact WNum.none HB1.out rfl
   ·clear hr;go_enter Tryz.func184,Tryz.ntmps184;go_wp2_with (first
     |(go_at_call 186;refine HN.out.mono ?_;rintro e w1 ⟨hb1,n,rfl,hn⟩;obtain rfl:=hn v rfl;have HB1:=hid hb1;clear hb1 hn;simp only[Option.isSome_some]))
    go_ret2
    exact WNum.none HB1.out rfl
def PRes{α:Type}(r:Pr α)(P:Nat)(w:World)(adr:Nat->Addr)(Z:Value)(V:α->Nat->Value->World->Prop)(e:Ending)(w':World):Prop:=EF P w w'∧match r with
 |.ok (a,q)=>∃v,e=.returned (.tuple #[v,.nilIface])∧V a q v w'
 |.error (c,k)=>e=.returned (.tuple #[Z,pE' adr (kIx c) k])
theorem PRes.ok{α:Type}{r:Pr α}{P:Nat}{w w':World}{adr:Nat->Addr}{Z:Value}{V:α->Nat->Value->World->Prop}{a:α}{q:Nat}{v:Value}(h:r=.ok (a,q))(hE:EF P w w')(hv:V a q v w'):PRes r P w adr Z V (.returned (.tuple #[v,.nilIface])) w':=⟨hE,by rw[h];exact⟨v,rfl,hv⟩⟩
theorem PRes.bad{α:Type}{r:Pr α}{P:Nat}{w w':World}{adr:Nat->Addr}{Z:Value}{V:α->Nat->Value->World->Prop}{c k:Nat}{x:Value}(h:r=.error (c,k))(hE:EF P w w')(hx:x=pE' adr (kIx c) k):PRes r P w adr Z V (.returned (.tuple #[Z,x])) w':=⟨hE,by rw[h,hx]⟩
theorem tokT_small{s:ByteArray}{p:Nat}(hp:p<=s.size)(hs:s.size<=2000):(tokT s p).size<=2000:=by rw[tokT_size hp];have:=nxt_le hp;omega
theorem pTag_up(s:ByteArray)(most p:Nat):pTag s most p=match upP (tokT s p) most with|some v=>.ok ((v.toNat,tokA s p),nxt s p)|none=>.error (2,tokA s p):=by
 unfold pTag upP;cases wholeP (tokT s p) with
 |none=>rfl
 |some v=>
  simp only;split<;>rfl
theorem up_ne{t:ByteArray}{most:Nat}{v:Int}(h:upP t most=some v):t≠⟨#[]⟩∧0<=v∧v<=(most:Int):=by
 refine⟨λe=>?_,?_⟩
 ·unfold upP at h;rw[e,wholeP_empty]at h;cases h
 ·unfold upP at h;cases hw:wholeP t with
  |none=>rw[hw]at h;cases h
  |some x=>
   rw[hw]at h;simp only at h;split at h
   ·cases h;assumption
   ·cases h
theorem pUpTo_any{B w:World}{P W:Nat}{adr:Nat->Addr}{s:ByteArray}{p nest:Nat}{gv:Value}(most:Nat)(hs:s.size<=2000)(hB:PB B w P adr)(h:PS w P W s p gv nest)(hp:p<=s.size):
 Calls Tryz.prog 147 #[.pointer (some ⟨P,0,none⟩),.int .i64 (most:Int)] w λe w'=>PRes (pTag s most p) P w adr (.int .i64 0) (λx q v w'=>v=.int .i64 (x.1:Int)∧q<=s.size∧PS w' P W s q gv nest) e w':=by
 have HP:=hid (peek_any h hp);have HT:=hid (pTag_up s most p);have HS:=hid h;have HSY:=hid hB.sy;have hz:=tokT_small hp hs;have F0:=fldW0;clear h hB;cases hu:upP (tokT s p) most with
 |none=>
  rw[hu]at HT;have HU:=hid hu;clear hu;go_enter Tryz.func147,Tryz.ntmps147;go_wp2_with (first
   |(go_at_call 67;refine HP.out.mono ?_;rintro e w1 ⟨rfl,hb1⟩;have HN:=hid (upTo_any (tokT s p) most hz (HSY.out.keep hb1));have HB1:=hid hb1;clear hb1;rw[HU.out]at HN)
   |(go_at_call 184;refine HN.out.mono ?_;rintro e w2 ⟨hb2,n,rfl,-⟩;have HB2:=hid (HB1.out.trans (hb2.mono HB1.out.size));clear hb2;have sy2:=(HSY.out.keep HB2.out).sy;simp only[Option.isSome_none])
   |(go_at_call 108;refine(pwrong_any adr 12 (HS.out.below HB2.out) hp).mono ?_;rintro e w3 ⟨rfl,hb3⟩;have HB3:=hid (HB2.out.trans (hb3.mono HB2.out.size));clear hb3))
  go_ret2
  exact PRes.bad HT.out (EF.of_below HB3.out) rfl
 |some v=>
  rw[hu]at HT;have hv:=up_ne hu;have HU:=hid hu;have HV:=hid hv;clear hu hv;go_enter Tryz.func147,Tryz.ntmps147;go_wp2_with (first
   |(go_at_call 67;refine HP.out.mono ?_;rintro e w1 ⟨rfl,hb1⟩;have HN:=hid (upTo_any (tokT s p) most hz (HSY.out.keep hb1));have HB1:=hid hb1;clear hb1;rw[HU.out]at HN)
   |(go_at_call 184;refine HN.out.mono ?_;rintro e w2 ⟨hb2,n,rfl,hn⟩;obtain rfl:=hn v rfl;have HB2:=hid (HB1.out.trans (hb2.mono HB1.out.size));clear hb2 hn;simp only[Option.isSome_some])
   |(go_at_call 68;refine(skip_any (HS.out.below HB2.out) hp).mono ?_;rintro e w3 ⟨rfl,hE3,hP3⟩;have HE3:=hid ((EF.of_below (E:=P) HB2.out).trans hE3);have HP3:=hid hP3;clear hE3 hP3))
  go_ret2
  exact PRes.ok HT.out HE3.out ⟨by simp only;rw[Int.toNat_of_nonneg HV.out.2.1];rfl,nxt_le hp,HP3.out HV.out.1⟩
end Go.Proofs.YtcpcplaeaimmpaaGreatDoor
