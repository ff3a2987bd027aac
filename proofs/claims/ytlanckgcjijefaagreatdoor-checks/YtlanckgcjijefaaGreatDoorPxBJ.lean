import Derived.Test.YtlanckgcjijefaaGreatDoorPx4J
import Derived.Test.YtlanckgcjijefaaGreatDoorRx2J
import Derived.Test.YtlanckgcjijefaaGreatDoorPNum2J
import Derived.Test.YtlanckgcjijefaaGreatDoorShJ
import Derived.Lib.SmallJoins
set_option maxRecDepth 100000
set_option maxHeartbeats 8000000
namespace Go.Proofs.YtlanckgcjijefaaGreatDoor
open Go.RowKit Go.Sort
def StrsAt(w:World)(P:Nat)(v:Value)(ts:List ByteArray):Prop:=∃g o c,v=.slice (some ⟨g,o,none⟩) ts.length c∧g≠P∧∀i (hi:i<ts.length),w.cell? ⟨g,o+i,none⟩=some (.string ts[i])
def pWants(s:ByteArray):List ByteArray->Nat->Pr Unit
 |[],p=>.ok ((),p)
 |t::r,p=>pb (pWant s t p) λ_ q=>pWants s r q
def kIx(c:Nat):Nat:=if c=2 then 12 else if c=3 then 13 else if c=5 then 14 else if c=4 then 5 else 4
def ERes(r:Pr Unit)(P:Nat)(w:World)(adr:Nat->Addr)(V:Nat->World->Prop)(e:Ending)(w':World):Prop:=EF P w w'∧match r with
 |.ok (_,q)=>e=.returned .nilIface∧V q w'
 |.error (c,a)=>e=.returned (pE' adr (kIx c) a)
theorem pWant_ok{s t:ByteArray}{p:Nat}(h:tokT s p=t):pWant s t p=.ok ((),nxt s p):=by unfold pWant;rw[if_pos h]
theorem pWant_err{s t:ByteArray}{p:Nat}(h:¬tokT s p=t):pWant s t p=.error (2,tokA s p):=by unfold pWant;rw[if_neg h]
structure ExpSt (P W:Nat) (s:ByteArray) (gv:Value) (nest:Nat) (ts:List ByteArray) (R:Pr Unit) (w wr:World) (k q:Nat):Prop where
 le:k<=ts.length
 hq:q<=s.size
 ef:EF P w wr
 ps:(∀t∈ts.take k,t≠⟨#[]⟩)->PS wr P W s q gv nest
 eq:R=pWants s (ts.drop k) q
theorem expect_any{B w:World}{P W:Nat}{adr:Nat->Addr}{s:ByteArray}{p nest:Nat}{gv tv:Value}{ts:List ByteArray}(hB:PB B w P adr)(h:PS w P W s p gv nest)(hp:p<=s.size)(hT:StrsAt w P tv ts)(hl:ts.length<=10)(he:∀i (hi:i+1<ts.length),ts[i]≠⟨#[]⟩):
 Calls Tryz.prog 31 #[.pointer (some ⟨P,0,none⟩),tv] w λe w'=>ERes (pWants s ts p) P w adr (λq w'=>(∀t∈ts,t≠⟨#[]⟩)->PS w' P W s q gv nest) e w':=by
 obtain⟨g,o,c,rfl,hne,hc⟩:=hT;have HC:=hid hc;have HB:=hid hB;have H0:Hid (ExpSt P W s gv nest ts (pWants s ts p) w w 0 p):=⟨Nat.zero_le _,hp,EF.refl _ _,λ_=>h,rfl⟩;clear hc hB h hp;generalize pWants s ts p=R at*;go_enter Tryz.func31,Tryz.ntmps31;go_wp2;go_loopw [9] (λkv wr=>∃(k q:Nat),k<=ts.length∧kv=.int .i64 (k:Int)∧Hid (ExpSt P W s gv nest ts R w wr k q)) (λkv _=>ts.length-(intOf kv).toNat)
 case atStart=>exact⟨0,p,Nat.zero_le _,rfl,H0.out⟩
 case round=>
  clear H0;obtain⟨k,q,hk,rfl,HS⟩:=hrel;rename World=>wr
  have hq:=HS.out.hq;by_cases hlt:k<ts.length
  ·have h0:(0:Int)<=(k:Int):=by omega
   have h1:(k:Int)<(ts.length:Int):=by omega
   have HPS:Hid (PS wr P W s q gv nest):=by
    refine HS.out.ps λt ht=>?_;obtain⟨i,hi,rfl⟩:=List.getElem_of_mem ht;rw[List.getElem_take];rw[List.length_take]at hi;exact he i (by omega)
   have c0:=ef_cell HS.out.ef (HC.out k hlt) hne;have hnk:k+1<ts.length->ts[k]≠⟨#[]⟩:=λh=>he k h;have HR:Hid (R=pb (pWant s ts[k] q) λ_ q'=>pWants s (ts.drop (k+1)) q'):=by
    show _=_;rw[HS.out.eq,List.drop_eq_getElem_cons hlt,pWants]
   have HTK:Hid (ts.take (k+1)=ts.take k++[ts[k]]):=by show _=_;rw[List.take_succ_eq_append_getElem hlt]
   obtain⟨tk,htk⟩:∃t,ts[k]=t:=⟨_,rfl⟩;rw[htk]at c0 HR HTK hnk;have HNK:=hid hnk;clear htk hnk;have HP:=hid (peek_any HPS.out hq);have HSY:=hid (HB.out.ef HS.out.ef).sy;have F0:=fldW0;go_wp2_with (first
    |(go_at_call 33;refine HP.out.mono ?_;rintro e w1 ⟨rfl,hb1⟩;have HPS1:=hid (HPS.out.below hb1);have sy1:=(HSY.out.keep hb1).sy;have HE1:=hid (EF.of_below (E:=P) hb1);clear hb1)
    |(go_at_call 50;refine(pwrong_any adr 12 HPS1.out hq).mono ?_;rintro e w3 ⟨rfl,hb3⟩)
    |(go_at_call 34;refine(skip_any HPS1.out hq).mono ?_;rintro e w3 ⟨rfl,hE3,hP3⟩;have HE3:=hid hE3;have HP3:=hid hP3;clear hE3 hP3))
   ·rename_i hx
    have hne':¬tokT s q=tk:=λe=>by rw[e]at hx;simp at hx
    go_ret;refine⟨(HS.out.ef.trans HE1.out).trans (EF.of_below hb3),?_⟩;rw[HR.out,pWant_err hne',pb_err];rfl
   ·rename_i hx
    have heq:tokT s q=tk:=toL_inj (by simpa using hx);refine⟨⟨k+1,nxt s q,by omega,by go_num,?_⟩,by simp[intOf];omega⟩;refine⟨by omega,nxt_le hq,(HS.out.ef.trans HE1.out).trans HE3.out,λht=>?_,?_⟩
    ·exact HP3.out (by rw[heq];exact ht tk (by rw[HTK.out];simp))
    ·rw[HR.out,pWant_ok heq,pb_ok]
  ·obtain rfl:k=ts.length:=by omega
   have hge:¬(ts.length:Int)<(ts.length:Int):=by omega
   go_wp2;go_ret;refine⟨HS.out.ef,?_⟩;rw[HS.out.eq,List.drop_length];exact⟨rfl,λht=>HS.out.ps (by rw[List.take_length];exact ht)⟩
theorem ret_b{a b:Bool}(h:a=b):Ending.returned (.bool a)=.returned (.bool b):=by rw[h]
theorem numB_false_zero{d:ByteArray}(h:zeroB d=true)(h1:1<d.size):numB d=false:=by unfold numB;simp[h,h1]
theorem lit_beq(s t:ByteArray):decide (s=t)=(s.toList==t.toList):=by
 by_cases h:s=t
 ·subst h;simp
 ·rw[decide_eq_false h];symm;rw[beq_eq_false_iff_ne];exact λe=>h (toL_inj e)
def digsF(d:ByteArray)(k:Nat):Bool:=digsL (d.data.toList.drop k)
theorem digsF_step{d:ByteArray}{k:Nat}(h:k<d.size):digsF d k=(digN d[k].toNat && digsF d (k+1)):=by
 unfold digsF digsL;have hl:k<d.data.toList.length:=by simpa using h
 rw[List.drop_eq_getElem_cons hl,List.all_cons];rfl
theorem digsF_end(d:ByteArray):digsF d d.size=true:=by
 unfold digsF;rw[List.drop_eq_nil_of_le (by simp)];rfl
theorem isDigits_any(d:ByteArray)(w:World)(hs:d.size<=2000):Calls Tryz.prog 84 #[.string d] w λe w'=>e=.returned (.bool (numB d))∧w'=w:=by
 by_cases h0:d.size=0
 ·obtain rfl:d=⟨#[]⟩:=ByteArray.ext (Array.eq_empty_of_size_eq_zero h0);go_enter Tryz.func84,Tryz.ntmps84;go_wp2;all_goals
   go_ret;exact⟨ret_b (by decide),rfl⟩
 ·have hl:0<d.size:=by omega
  have b0:(d.toList==([]:List UInt8))=false:=by
   rw[beq_eq_false_iff_ne];intro e;have h1:d.toList.length=d.size:=by rw[ByteArray.toList_eq];simp
   rw[e]at h1;simp at h1;omega
  have hz:zeroB d=decide (d[0].toNat=48):=by unfold zeroB;rw[getElem?_pos d 0 hl]
  have i0:(0:Int)<(d.size:Int):=by omega
  by_cases hA:zeroB d=true∧1<d.size
  ·have HN:=hid (numB_false_zero hA.1 hA.2);have e1:((d[0].toNat:Int)==48)=true:=by
    rw[hz]at hA;rw[beq_iff_eq];have:=of_decide_eq_true hA.1;omega
   have i1:(1:Int)<(d.size:Int):=by omega
   clear hz hA;go_enter Tryz.func84,Tryz.ntmps84;go_wp2;all_goals
    go_ret;exact⟨ret_b HN.out.symm,rfl⟩
  ·have HN:Hid (numB d=digsF d 0):=by
    show _=_;unfold numB digsF;rw[List.drop_zero];have:(zeroB d && decide (1<d.size))=false:=by
     rw[Bool.and_eq_false_iff];by_cases hz1:zeroB d=true
     ·exact Or.inr (decide_eq_false λh=>hA ⟨hz1,h⟩)
     ·exact Or.inl (by simpa using hz1)
    rw[this];simp[hl]
   have hB:¬d[0].toNat=48∨d.size=1:=by
    by_cases h48:d[0].toNat=48
    ·refine Or.inr ?_;have:¬1<d.size:=λh=>hA ⟨by rw[hz];simp[h48],h⟩;omega
    ·exact Or.inl h48
   clear hz hA;have e1:((d[0].toNat:Int)==48)=false∨((d[0].toNat:Int)==48)=true∧d.size=1:=by
    by_cases h48:d[0].toNat=48
    ·exact Or.inr ⟨by rw[beq_iff_eq];omega,by rcases hB with h|h;exact absurd h48 h;exact h⟩
    ·exact Or.inl (by rw[beq_eq_false_iff_ne];omega)
   clear hB;rcases e1 with e1|⟨e1,hs1⟩;all_goals
    go_enter Tryz.func84,Tryz.ntmps84;go_wp2;go_loop [18] (λi=>∃k:Nat,k<=d.size∧i=.int .i64 k∧Hid (digsF d 0=digsF d k)) (λi=>d.size-(intOf i).toNat)
    case atStart=>exact⟨0,Nat.zero_le _,rfl,rfl⟩
    case round=>
     obtain⟨k,hk,rfl,HA⟩:=hrel;by_cases hlt:k<d.size
     ·have h1:(0:Int)<=(k:Int):=by omega
      have h2:(k:Int)<(d.size:Int):=by omega
      have HS:=hid (digsF_step hlt);cases hd:digN d[k].toNat with
      |true=>
       have hd2:48<=d[k].toNat∧d[k].toNat<=57:=by simp only[digN,Bool.and_eq_true,decide_eq_true_eq]at hd;exact hd
       have j1:¬(d[k].toNat:Int)<48:=by omega
       have j2:¬(57:Int)<(d[k].toNat:Int):=by omega
       have HD:=hid hd;clear hd;go_wp2;exact⟨⟨k+1,by omega,by go_num,by show _=_;rw[HA.out,HS.out,HD.out];rfl⟩,by simp[intOf];omega⟩
      |false=>
       have hd2:d[k].toNat<48∨57<d[k].toNat:=by
        simp only[digN,Bool.and_eq_false_iff,decide_eq_false_iff_not]at hd;omega
       have HD:=hid hd;clear hd;by_cases j1:(d[k].toNat:Int)<48
       ·go_wp2;all_goals
         go_ret;exact⟨ret_b (by rw[HN.out,HA.out,HS.out,HD.out];rfl),rfl⟩
       ·have j2:(57:Int)<(d[k].toNat:Int):=by omega
        go_wp2;all_goals
         go_ret;exact⟨ret_b (by rw[HN.out,HA.out,HS.out,HD.out];rfl),rfl⟩
     ·obtain rfl:k=d.size:=by omega
      have hge:¬(d.size:Int)<(d.size:Int):=by omega
      go_wp2;go_ret;exact⟨ret_b (by rw[HN.out,HA.out,digsF_end]),rfl⟩
theorem resL(s:ByteArray):isRes s 0=((s.toList==[109,111,100,117,108,101])||((s.toList==[105,109,112,111,114,116])||((s.toList==[100,101,102])||((s.toList==[108,101,116])||((s.toList==[108,101,116,114,101,99])||((s.toList==[99,111,110])||(s.toList==[99,97,115,101]))))))):=by
 unfold isRes resv;simp only[List.drop_zero,List.any_cons,List.any_nil,lit_beq,Bool.or_false,ByteArray.toList_eq]
theorem isReserved_any(s:ByteArray)(w:World):Calls Tryz.prog 63 #[.string s] w λe w'=>e=.returned (.bool (isRes s 0))∧w'=w:=by
 have HR:=hid (resL s);go_enter Tryz.func63,Tryz.ntmps63;go_wp2;all_goals
  go_ret;refine⟨ret_b ?_,rfl⟩;rw[HR.out];simp_all
def signV(t:ByteArray):Value:=match signOf t with|some k=>.tuple #[.int .i64 (9+(k:Int)),.bool true]|none=>.tuple #[.int .i64 0,.bool false]
theorem signL(s:ByteArray):signV s=if (s.toList==[43])=true then .tuple #[.int .i64 9,.bool true] else if (s.toList==[45])=true then .tuple #[.int .i64 10,.bool true] else if (s.toList==[42])=true then .tuple #[.int .i64 11,.bool true] else if (s.toList==[47])=true then .tuple #[.int .i64 12,.bool true] else if (s.toList==[61])=true then .tuple #[.int .i64 13,.bool true] else if (s.toList==[60])=true then .tuple #[.int .i64 14,.bool true] else .tuple #[.int .i64 0,.bool false]:=by
 unfold signV signOf signs;simp only[List.findIdx?_cons,List.findIdx?_nil,lit_beq,ByteArray.toList_eq];generalize (s.data.toList==[43])=a1;generalize (s.data.toList==[45])=a2;generalize (s.data.toList==[42])=a3;generalize (s.data.toList==[47])=a4;generalize (s.data.toList==[61])=a5;generalize (s.data.toList==[60])=a6;cases a1<;>cases a2<;>cases a3<;>cases a4<;>cases a5<;>cases a6<;>rfl
theorem ret_v{a b:Value}(h:a=b):Ending.returned a=.returned b:=by rw[h]
theorem opOf_any(s:ByteArray)(w:World):Calls Tryz.prog 91 #[.string s] w λe w'=>e=.returned (signV s)∧w'=w:=by
 have HR:=hid (signL s);go_enter Tryz.func91,Tryz.ntmps91;go_wp2;all_goals
  go_ret2
  refine⟨ret_v ?_,rfl⟩;rw[HR.out];simp_all
theorem idx_neg(l:List UInt8)(c:UInt8):decide (0<=Lib.indexByte l c)=l.any λb=>b==c:=by
 induction l with
 |nil=>rfl
 |cons b r ih=>
  rw[Lib.indexByte,List.any_cons];cases hb:b==c with
  |true=>simp
  |false=>
   rw[if_neg (by simp),Bool.false_or,<-ih];have hg:-1<=Lib.indexByte r c:=by
    clear ih hb;induction r with
    |nil=>rw[Lib.indexByte];decide
    |cons x y ih=>
     rw[Lib.indexByte];split
     ·decide
     ·split
      ·decide
      ·omega
   by_cases h:Lib.indexByte r c==-1
   ·rw[if_pos h];have:=eq_of_beq h;rw[this]
   ·rw[if_neg h];have hne:Lib.indexByte r c≠-1:=λe=>h (by rw[e];rfl);have h1:(0:Int)<=Lib.indexByte r c:=by omega
    rw[decide_eq_true h1,decide_eq_true (by omega)]
theorem chk_all(s:ByteArray):∀(n k:Nat),s.size-k<=n->0<k->chk s k=(s.data.toList.drop k).all λc=>lowN c.toNat||digN c.toNat
 |0,k,hn,hk=>by
  rw[chk_end (by omega),List.drop_eq_nil_of_le (by simp;omega)];rfl
 |n+1,k,hn,hk=>by
  by_cases h:k<s.size
  ·have hl:k<s.data.toList.length:=by simpa using h
   rw[chk_step h,chk_all s n (k+1) (by omega) (by omega),List.drop_eq_getElem_cons hl,List.all_cons];have:decide (k≠0)=true:=decide_eq_true (by omega);rw[this,Bool.true_and];rfl
  ·rw[chk_end (by omega),List.drop_eq_nil_of_le (by simp;omega)];rfl
theorem isLet_low(c:UInt8):isLet (c.toNat:Int)=lowN c.toNat:=by
 unfold isLet lowN;congr 1
 ·rw[decide_eq_decide];omega
 ·rw[decide_eq_decide];omega
theorem isDig_dig(c:UInt8):isDig (c.toNat:Int)=digN c.toNat:=by
 unfold isDig digN;congr 1
 ·rw[decide_eq_decide];omega
 ·rw[decide_eq_decide];omega
theorem word_nm(s:ByteArray):(nmB s && decide (s.size<=10) && !(s.data.toList.any λb=>b==35) && !isRes s 0)=wordB s:=by
 unfold wordB;by_cases h0:0<s.size
 ·by_cases h10:s.size<=10
  ·rw[nmB_mid s h0 (by omega),decide_eq_true h0,decide_eq_true h10,Bool.and_true,Bool.and_true,Bool.and_true];have hc:(isLet s[0].toNat && nmAll s.data.toList && !(s.data.toList.any λb=>b==35))=chk s 0:=by
    have hl:0<s.data.toList.length:=by simpa using h0
    have e:s.data.toList=s[0]::s.data.toList.drop 1:=by
     have:=List.drop_eq_getElem_cons hl;rw[List.drop_zero]at this;exact this
    rw[chk_step h0,chk_all s _ 1 (Nat.le_refl _) (by omega)];simp only[ne_eq,not_true_eq_false,decide_false,Bool.false_and,Bool.or_false];conv=>lhs;rw[e]
    rw[isLet_low];cases hlow:lowN s[0].toNat with
    |false=>rfl
    |true=>
     have h35:(s[0]==35)=false:=by
      rw[beq_eq_false_iff_ne];intro e2;rw[e2]at hlow;exact absurd hlow (by decide)
     unfold nmAll;rw[List.all_cons,List.any_cons,h35,Bool.false_or,Bool.true_and];have hn:nmC (s[0].toNat:Int)=true:=by unfold nmC;rw[isLet_low,hlow];rfl
     rw[hn,Bool.true_and,Bool.true_and];generalize s.data.toList.drop 1=r;induction r with
     |nil=>rfl
     |cons c q ih=>
      rw[List.all_cons,List.any_cons,List.all_cons,<-ih];have hx:nmC (c.toNat:Int)=(lowN c.toNat||digN c.toNat||(c==35)):=by
       unfold nmC;rw[isLet_low,isDig_dig];congr 1
       rw[Bool.eq_iff_iff,beq_iff_eq,beq_iff_eq];constructor
       ·intro h;exact UInt8.toNat_inj.1 (by rw[show c.toNat=35 by omega];rfl)
       ·intro h;rw[h];rfl
      rw[hx];cases hc35:c==35 with
      |false=>cases lowN c.toNat<;>cases digN c.toNat<;>simp
      |true=>
       have:c=35:=eq_of_beq hc35;subst this;have h1:lowN (35:UInt8).toNat=false:=by decide
       have h2:digN (35:UInt8).toNat=false:=by decide
       rw[h1,h2];simp
   rw[<-hc]
  ·rw[decide_eq_false h10,Bool.and_false,Bool.and_false];rfl
 ·rw[decide_eq_false h0,nmB_zero s (by omega)];simp
theorem synName_any(s:ByteArray)(w:World)(hs:s.size<=2000):Calls Tryz.prog 51 #[.string s] w λe w'=>e=.returned (.bool (wordB s))∧w'=w:=by
 have HW:Hid (wordB s=(nmB s && decide (s.size<=10) && !(s.data.toList.any λb=>b==35) && !isRes s 0)):=(word_nm s).symm;have HC:Hid (∀w,Calls Tryz.prog 62 #[.string s,.string ⟨#[35]⟩] w λe w'=>e=.returned (.bool (s.data.toList.any λb=>b==35))∧w'=w):=by
  intro w;have h:=Any.strings_Contains_one Tryz.lays144 s 35 w;rw[idx_neg]at h;exact h
 generalize hx:(s.data.toList.any λb=>b==35)=x at*;clear hx;generalize hv:wordB s=v at*;clear hv;by_cases h10:s.size<=10
 ·have i1:(s.size:Int)<=10:=by omega
  have D10:=decide_eq_true h10;go_enter Tryz.func51,Tryz.ntmps51;go_wp2_with (first
   |(go_at_call 61;refine(IsName_any _ _ (by unfold maxLen;omega)).mono ?_;rintro e w' ⟨rfl,rfl⟩)
   |(go_at_call 62;refine(HC.out _).mono ?_;rintro e w' ⟨rfl,rfl⟩)
   |(go_at_call 63;refine(isReserved_any _ _).mono ?_;rintro e w' ⟨rfl,rfl⟩))
  all_goals
   go_ret;refine⟨ret_b ?_,rfl⟩;rw[HW.out,D10];simp_all
 ·have i1:¬(s.size:Int)<=10:=by omega
  have D10:=decide_eq_false h10;go_enter Tryz.func51,Tryz.ntmps51;go_wp2_with (first
   |(go_at_call 61;refine(IsName_any _ _ (by unfold maxLen;omega)).mono ?_;rintro e w' ⟨rfl,rfl⟩)
   |(go_at_call 62;refine(HC.out _).mono ?_;rintro e w' ⟨rfl,rfl⟩)
   |(go_at_call 63;refine(isReserved_any _ _).mono ?_;rintro e w' ⟨rfl,rfl⟩))
  all_goals
   go_ret;refine⟨ret_b ?_,rfl⟩;rw[HW.out,D10];simp_all
def WNum(r:Option Int)(w:World)(e:Ending)(w':World):Prop:=Below w.heap.size w w'∧∃n:Int,e=.returned (.tuple #[.int .i64 n,.bool r.isSome])∧∀v,r=some v->n=v
theorem WNum.none{w w':World}{n:Int}{b:Bool}(hb:Below w.heap.size w w')(h:b=false):WNum none w (.returned (.tuple #[.int .i64 n,.bool b])) w':=⟨hb,n,by rw[h];rfl,λv e=>by cases e⟩
theorem WNum.some{w w':World}{n:Int}{b:Bool}(hb:Below w.heap.size w w')(h:b=true):WNum (some n) w (.returned (.tuple #[.int .i64 n,.bool b])) w':=⟨hb,n,by rw[h];rfl,λv e=>by cases e;rfl⟩
theorem below_bytes{w w':World}{t:TypeId}(h:w'=w∨∃x,w'=Lib.bytesWorld w t x):Below w.heap.size w w':=by
 rcases h with rfl|⟨x,rfl⟩
 ·exact Below.refl _ _
 ·exact Joins.below_bytesWorld _ w t x (Nat.le_refl _)
theorem pnumber_any{w:World}{adr:Nat->Addr}(s:ByteArray)(hs:s.size<=2000)(hS:SY w adr):Calls Tryz.prog 81 #[.string s] w λe w'=>WNum (wholeP s) w e w':=by
 have HT:Hid (∀w,Calls Tryz.prog 85 #[.string s,.string ⟨#[45]⟩] w λe w'=>e=.returned (.string (absP s))∧w'=w):=by
  intro w;have h:=Any.strings_TrimPrefix Tryz.lays101 s ⟨#[45]⟩ w;rw[trim_abs]at h;exact h
 have ha:(absP s).size<=2000:=by
  unfold absP;split
  ·rw[ByteArray.size_extract];omega
  ·exact hs
 have HD:=hid (λw=>isDigits_any (absP s) w ha);have hz:mZero.toList=[45,48]:=by rw[ByteArray.toList_eq];rfl
 by_cases hb:numB (absP s)=false∨s=mZero
 ·have HW:=hid (whole_bad hb);have hb2:numB (absP s)=false∨(s.toList==[45,48])=true:=by
   rcases hb with h|h
   ·exact Or.inl h
   ·exact Or.inr (by rw[h,hz];rfl)
  clear hb hS;rw[HW.out];generalize numB (absP s)=nb at*;rcases hb2 with h|h;all_goals
   go_enter Tryz.func81,Tryz.ntmps81;go_wp2_with (first
    |(go_at_call 85;refine(HT.out _).mono ?_;rintro e w' ⟨rfl,rfl⟩)
    |(go_at_call 84;refine(HD.out _).mono ?_;rintro e w' ⟨rfl,rfl⟩))
   all_goals
    go_ret2
    exact WNum.none (Below.refl _ _) rfl
 ·have hn:numB (absP s)=true:=by cases h:numB (absP s) with|true=>rfl|false=>exact absurd (Or.inl h) hb
  have hm:s≠mZero:=λh=>hb (Or.inr h);have hp:=whole_num hn hm;have e45:(s.toList==[45,48])=false:=by
   rw[beq_eq_false_iff_ne];intro e;exact hm (toL_inj (by rw[e,hz]))
  rw[hn]at HD;clear hb hn hm;cases hw:wholeP s with
  |some v=>
   rw[hw]at hp;have HP:=hid (λw=>Any.strconv_ParseInt_10_at64_ok Tryz.laysC174 s (by omega) v hp w);clear hp hw hS;go_enter Tryz.func81,Tryz.ntmps81;go_wp2_with (first
    |(go_at_call 85;refine(HT.out _).mono ?_;rintro e w' ⟨rfl,rfl⟩)
    |(go_at_call 84;refine(HD.out _).mono ?_;rintro e w' ⟨rfl,rfl⟩)
    |(go_at_call 86;refine(HP.out _).mono ?_;rintro e w1 ⟨rfl,hb1⟩;have HB1:=hid (below_bytes hb1);clear hb1))
   go_quiet (fail);go_wp2;have hbq:=below_drewN (Below.refl w1.heap.size w1) nq;go_ret2
   exact WNum.some (HB1.out.trans (hbq.mono HB1.out.size)) rfl
  |none=>
   rw[hw]at hp;obtain⟨ev,hv,hev⟩:=hS.er;have HP:=hid (λw hv=>Any.strconv_ParseInt_10_at64_range Tryz.laysC174 s (by omega) hp ev w hv hev);clear hp hw hS hev;go_enter Tryz.func81,Tryz.ntmps81;go_wp2_with (first
    |(go_at_call 85;refine(HT.out _).mono ?_;rintro e w' ⟨rfl,rfl⟩)
    |(go_at_call 84;refine(HD.out _).mono ?_;rintro e w' ⟨rfl,rfl⟩)
    |(go_at_call 86;refine(HP.out _ hv).mono ?_;rintro e w1 ⟨N,rfl,-,-,hb1⟩;have HB1:=hid hb1;clear hb1))
   go_quiet (fail);go_wp2;have hbq:=below_drewN (Below.refl w1.heap.size w1) nq;go_ret2
   exact WNum.none (HB1.out.trans (hbq.mono HB1.out.size)) rfl
def upP(t:ByteArray)(most:Nat):Option Int:=match wholeP t with|some v=>if 0<=v∧v<=(most:Int) then some v else none|none=>none
theorem upTo_any{w:World}{adr:Nat->Addr}(s:ByteArray)(most:Nat)(hs:s.size<=2000)(hS:SY w adr):Calls Tryz.prog 79 #[.string s,.int .i64 (most:Int)] w λe w'=>WNum (upP s most) w e w':=by
 have HN:=hid (pnumber_any s hs hS);have HU:Hid (upP s most=match wholeP s with|some v=>if 0<=v∧v<=(most:Int) then some v else none|none=>none):=rfl;clear hS;cases hw:wholeP s with
 |none=>
  rw[hw]at HN HU;rw[HU.out];clear hw;go_enter Tryz.func79,Tryz.ntmps79;go_wp2_with (first
   |(go_at_call 81;refine HN.out.mono ?_;rintro e w1 ⟨hb1,n,rfl,-⟩;have HB1:=hid hb1;clear hb1;simp only[Option.isSome_none]))
  go_ret2
  exact WNum.none HB1.out rfl
 |some v=>
  rw[hw]at HN HU;clear hw;by_cases hr:0<=v∧v<=(most:Int)
  ·rw[HU.out];simp only[hr,and_self,if_true];obtain⟨hr1,hr2⟩:=hr;go_enter Tryz.func79,Tryz.ntmps79;go_wp2_with (first
    |(go_at_call 81;refine HN.out.mono ?_;rintro e w1 ⟨hb1,n,rfl,hn⟩;obtain rfl:=hn v rfl;have HB1:=hid hb1;clear hb1 hn;simp only[Option.isSome_some]))
   go_ret2
   exact WNum.some HB1.out rfl
  ·rw[HU.out];simp only[hr,if_false];by_cases hr1:0<=v
   ·have hr2:¬v<=(most:Int):=λh=>hr ⟨hr1,h⟩;clear hr;go_enter Tryz.func79,Tryz.ntmps79;go_wp2_with (first
     |(go_at_call 81;refine HN.out.mono ?_;rintro e w1 ⟨hb1,n,rfl,hn⟩;obtain rfl:=hn v rfl;have HB1:=hid hb1;clear hb1 hn;simp only[Option.isSome_some]))
    go_ret2
    exact WNum.none HB1.out rfl
   ·clear hr;go_enter Tryz.func79,Tryz.ntmps79;go_wp2_with (first
     |(go_at_call 81;refine HN.out.mono ?_;rintro e w1 ⟨hb1,n,rfl,hn⟩;obtain rfl:=hn v rfl;have HB1:=hid hb1;clear hb1 hn;simp only[Option.isSome_some]))
    go_ret2
    exact WNum.none HB1.out rfl
def PRes{α:Type}(r:Pr α)(P:Nat)(w:World)(adr:Nat->Addr)(Z:Value)(V:α->Nat->Value->World->Prop)(e:Ending)(w':World):Prop:=EF P w w'∧match r with
 |.ok (a,q)=>∃v,e=.returned (.tuple #[v,.nilIface])∧V a q v w'
 |.error (c,k)=>e=.returned (.tuple #[Z,pE' adr (kIx c) k])
theorem PRes.ok{α:Type}{r:Pr α}{P:Nat}{w w':World}{adr:Nat->Addr}{Z:Value}{V:α->Nat->Value->World->Prop}{a:α}{q:Nat}{v:Value}(h:r=.ok (a,q))(hE:EF P w w')(hv:V a q v w'):PRes r P w adr Z V (.returned (.tuple #[v,.nilIface])) w':=⟨hE,by rw[h];exact⟨v,rfl,hv⟩⟩
theorem PRes.bad{α:Type}{r:Pr α}{P:Nat}{w w':World}{adr:Nat->Addr}{Z:Value}{V:α->Nat->Value->World->Prop}{c k:Nat}{x:Value}(h:r=.error (c,k))(hE:EF P w w')(hx:x=pE' adr (kIx c) k):PRes r P w adr Z V (.returned (.tuple #[Z,x])) w':=⟨hE,by rw[h,hx]⟩
theorem tokT_small{s:ByteArray}{p:Nat}(hp:p<=s.size)(hs:s.size<=2000):(tokT s p).size<=2000:=by rw[tokT_size hp];have:=nxt_le hp;omega
theorem pTag_up(s:ByteArray)(most p:Nat):pTag s most p=match upP (tokT s p) most with|some v=>.ok ((v.toNat,tokA s p),nxt s p)|none=>.error (2,tokA s p):=by
 unfold pTag upP;cases wholeP (tokT s p) with
 |none=>rfl
 |some v=>
  simp only;split<;>rfl
theorem up_ne{t:ByteArray}{most:Nat}{v:Int}(h:upP t most=some v):t≠⟨#[]⟩∧0<=v∧v<=(most:Int):=by
 refine⟨λe=>?_,?_⟩
 ·unfold upP at h;rw[e,wholeP_empty]at h;cases h
 ·unfold upP at h;cases hw:wholeP t with
  |none=>rw[hw]at h;cases h
  |some x=>
   rw[hw]at h;simp only at h;split at h
   ·cases h;assumption
   ·cases h
theorem pUpTo_any{B w:World}{P W:Nat}{adr:Nat->Addr}{s:ByteArray}{p nest:Nat}{gv:Value}(most:Nat)(hs:s.size<=2000)(hB:PB B w P adr)(h:PS w P W s p gv nest)(hp:p<=s.size):
 Calls Tryz.prog 67 #[.pointer (some ⟨P,0,none⟩),.int .i64 (most:Int)] w λe w'=>PRes (pTag s most p) P w adr (.int .i64 0) (λx q v w'=>v=.int .i64 (x.1:Int)∧q<=s.size∧PS w' P W s q gv nest) e w':=by
 have HP:=hid (peek_any h hp);have HT:=hid (pTag_up s most p);have HS:=hid h;have HSY:=hid hB.sy;have hz:=tokT_small hp hs;have F0:=fldW0;clear h hB;cases hu:upP (tokT s p) most with
 |none=>
  rw[hu]at HT;have HU:=hid hu;clear hu;go_enter Tryz.func67,Tryz.ntmps67;go_wp2_with (first
   |(go_at_call 33;refine HP.out.mono ?_;rintro e w1 ⟨rfl,hb1⟩;have HN:=hid (upTo_any (tokT s p) most hz (HSY.out.keep hb1));have HB1:=hid hb1;clear hb1;rw[HU.out]at HN)
   |(go_at_call 79;refine HN.out.mono ?_;rintro e w2 ⟨hb2,n,rfl,-⟩;have HB2:=hid (HB1.out.trans (hb2.mono HB1.out.size));clear hb2;have sy2:=(HSY.out.keep HB2.out).sy;simp only[Option.isSome_none])
   |(go_at_call 50;refine(pwrong_any adr 12 (HS.out.below HB2.out) hp).mono ?_;rintro e w3 ⟨rfl,hb3⟩;have HB3:=hid (HB2.out.trans (hb3.mono HB2.out.size));clear hb3))
  go_ret2
  exact PRes.bad HT.out (EF.of_below HB3.out) rfl
 |some v=>
  rw[hu]at HT;have hv:=up_ne hu;have HU:=hid hu;have HV:=hid hv;clear hu hv;go_enter Tryz.func67,Tryz.ntmps67;go_wp2_with (first
   |(go_at_call 33;refine HP.out.mono ?_;rintro e w1 ⟨rfl,hb1⟩;have HN:=hid (upTo_any (tokT s p) most hz (HSY.out.keep hb1));have HB1:=hid hb1;clear hb1;rw[HU.out]at HN)
   |(go_at_call 79;refine HN.out.mono ?_;rintro e w2 ⟨hb2,n,rfl,hn⟩;obtain rfl:=hn v rfl;have HB2:=hid (HB1.out.trans (hb2.mono HB1.out.size));clear hb2 hn;simp only[Option.isSome_some])
   |(go_at_call 34;refine(skip_any (HS.out.below HB2.out) hp).mono ?_;rintro e w3 ⟨rfl,hE3,hP3⟩;have HE3:=hid ((EF.of_below (E:=P) HB2.out).trans hE3);have HP3:=hid hP3;clear hE3 hP3))
  go_ret2
  exact PRes.ok HT.out HE3.out ⟨by simp only;rw[Int.toNat_of_nonneg HV.out.2.1];rfl,nxt_le hp,HP3.out HV.out.1⟩
def NmAt(w:World)(v:Value)(l:Nms):Prop:=∃p c,v=.slice p l.length c∧(l≠[]->∃g o,p=some ⟨g,o,none⟩∧g<w.heap.size∧∀i (hi:i<l.length),w.cell? ⟨g,o+i*2,none⟩=some (.string l[i].1)∧w.cell? ⟨g,o+i*2+1,none⟩=some (.int .i64 (l[i].2:Int)))
theorem NmAt.keep{w w':World}{v:Value}{l:Nms}(h:NmAt w v l)(hb:Below w.heap.size w w'):NmAt w' v l:=by
 obtain⟨p,c,rfl,hc⟩:=h;refine⟨p,c,rfl,λhl=>?_⟩;obtain⟨g,o,rfl,hg,hx⟩:=hc hl;exact⟨g,o,rfl,Nat.lt_of_lt_of_le hg hb.size,λi hi=>⟨cell_keep hb (hx i hi).1,cell_keep hb (hx i hi).2⟩⟩
theorem fldN0(x y:Value)(w:World):Sem.run Tryz.prog (Instr.field 91 (.agg #[x,y]) 0) w=.ok x w:=by kernel_rfl
theorem hasC_any(x t:ByteArray)(n:Int)(b:Nat)(w:World)(h:w.cell? ⟨b,0,none⟩=some (.string t)):Calls Tryz.prog 65 #[.agg #[.string x,.int .i64 n],.pointer (some ⟨b,0,none⟩)] w λe w'=>e=.returned (.bool (decide (x=t)))∧Below w.heap.size w w':=by
 have F:=fldN0;have HL:=hid (lit_beq x t);have h2:=λo=>cell_keep ((Below.refl w.heap.size w).alloc (Nat.le_refl _) o) h;go_enter Tryz.func65,Tryz.ntmps65;go_wp2;go_ret;exact⟨ret_b HL.out.symm,(Below.refl _ _).alloc (Nat.le_refl _) _⟩
def nmC2(x:ByteArray×Nat):List Value:=[.string x.1,.int .i64 (x.2:Int)]
theorem containsF_any(l:Nms)(v:Value)(t:ByteArray)(b:Nat)(w:World)(hl:l.length<=100000)(h:NmAt w v l)(ht:w.cell? ⟨b,0,none⟩=some (.string t)):
 Calls Tryz.prog 64 #[v,.func (.func 65) #[] #[.pointer (some ⟨b,0,none⟩)]] w λe w'=>e=.returned (.bool (inB t (l.map (·.1)) 0))∧Below w.heap.size w w':=by
 obtain⟨p,c,rfl,hc⟩:=h;by_cases h0:l=[]
 ·subst h0;clear hc;go_enter Tryz.func64,Tryz.ntmps64;go_wp2_with (go_in)
  go_loop [8] (λi=>i=.int .i64 0) (λ_=>0)
  case atStart=>rfl
  case round=>
   obtain rfl:=hrel;go_wp2;go_ret;exact⟨ret_b rfl,Below.refl _ _⟩
 ·obtain⟨g,o,rfl,hg,hx⟩:=hc h0;have hr:=AnyQ.slices_ContainsFunc (α:=ByteArray×Nat) Tryz.laysCF 2 (by intro w;kernel_rfl) (by intro w;kernel_rfl) nmC2 (λ_=>rfl) (λx=>decide (x.1=t)) 65 #[.pointer (some ⟨b,0,none⟩)] (by intro args w;kernel_rfl) g o l.length c l w (λW x hb=>by
   have:=hasC_any x.1 t (x.2:Int) b W (cell_keep hb ht);exact this.mono λ_ _ ⟨h1,h2⟩=>⟨h1,hb.trans (h2.mono hb.size)⟩) (Nat.le_refl _) (by omega) hg (by
   intro j hj i u hu;have hx':=hx j hj;have ej:l[j]! =l[j]:=by rw[getElem!_pos l j hj]
   rw[ej]at hu;match i,hu with
   |0,hu=>cases hu;exact hx'.1
   |1,hu=>cases hu;exact hx'.2
   |i+2,hu=>cases hu)
  refine hr.mono ?_;rintro e w' ⟨rfl,hb⟩;refine⟨ret_b ?_,hb⟩;unfold inB;rw[List.take_length,List.drop_zero,List.any_map];rfl
theorem Has_any(l:Nms)(v:Value)(t:ByteArray)(w:World)(hl:l.length<=100000)(h:NmAt w v l):
 Calls Tryz.prog 52 #[v,.string t] w λe w'=>e=.returned (.bool (inB t (l.map (·.1)) 0))∧Below w.heap.size w w':=by
 obtain⟨p,c,rfl,-⟩:=id h;have HC:Hid (Calls Tryz.prog 64 #[.slice p l.length c,.func (.func 65) #[] #[.pointer (some ⟨w.heap.size,0,none⟩)]] (w.alloc (.cells #[.string t] 9)) λe w'=>e=.returned (.bool (inB t (l.map (·.1)) 0))∧Below w.heap.size w w'):=by
  have hb:Below w.heap.size w (w.alloc (.cells #[.string t] 9)):=(Below.refl _ _).alloc (Nat.le_refl _) _;exact(containsF_any l _ t w.heap.size _ hl (h.keep hb) (by simp)).mono λ_ _ ⟨h1,h2⟩=>⟨h1,hb.trans (h2.mono (by simp))⟩
 clear h;generalize l.length=n at*;generalize inB t (l.map (·.1)) 0=r at*;go_enter Tryz.func52,Tryz.ntmps52;go_wp2_with (first
  |(go_at_call 64;refine HC.out.mono ?_;rintro e w1 ⟨rfl,hb1⟩))
 go_ret;exact⟨rfl,hb1⟩
def V2(w:World)(b:Nat)(x y:Value):Prop:=w.cell? ⟨b,0,none⟩=some x∧w.cell? ⟨b,1,none⟩=some y∧w.frozen? ⟨b,0,none⟩=false∧w.frozen? ⟨b,1,none⟩=false
theorem V2.lt{w:World}{b:Nat}{x y:Value}(h:V2 w b x y):b<w.heap.size:=block_lt_of_cell h.1
theorem V2.keep{w w':World}{b:Nat}{x y:Value}(h:V2 w b x y)(hb:Below w.heap.size w w'):V2 w' b x y:=by
 have e:=hb.block b h.lt;exact⟨cell_keep hb h.1,cell_keep hb h.2.1,by rw[World.frozen?_of_block (a:=⟨b,0,none⟩) e];exact h.2.2.1,by rw[World.frozen?_of_block (a:=⟨b,1,none⟩) e];exact h.2.2.2⟩
theorem V2.ef{w w':World}{b P:Nat}{x y:Value}(h:V2 w b x y)(hE:EF P w w')(hn:b≠P):V2 w' b x y:=by
 have e:=hE.block b h.lt hn;exact⟨by rw[World.cell?_of_block (a:=⟨b,0,none⟩) e];exact h.1,by rw[World.cell?_of_block (a:=⟨b,1,none⟩) e];exact h.2.1,by rw[World.frozen?_of_block (a:=⟨b,0,none⟩) e];exact h.2.2.1,by rw[World.frozen?_of_block (a:=⟨b,1,none⟩) e];exact h.2.2.2⟩
theorem V2.put{w:World}{b:Nat}{x y:Value}(h:V2 w b x y)(u v:Value):V2 ((w.setCell ⟨b,0,none⟩ u).setCell ⟨b,1,none⟩ v) b u v:=by
 have h1:(w.setCell ⟨b,0,none⟩ u).cell? ⟨b,1,none⟩=some y:=by rw[World.cell?_setCell_other _ _ _ _ (off_ne (by omega))];exact h.2.1
 refine⟨?_,World.cell?_setCell_same _ _ _ h1,?_,?_⟩
 ·rw[World.cell?_setCell_other _ _ _ _ (off_ne (by omega))];exact World.cell?_setCell_same _ _ _ h.1
 ·rw[World.frozen?_setCell,World.frozen?_setCell];exact h.2.2.1
 ·rw[World.frozen?_setCell,World.frozen?_setCell];exact h.2.2.2
theorem V2.far{w:World}{b c j:Nat}{x y u:Value}(h:V2 w b x y)(hn:b≠c):V2 (w.setCell ⟨c,j,none⟩ u) b x y:=by
 refine⟨?_,?_,?_,?_⟩
 ·rw[World.cell?_setCell_other _ _ _ _ (by intro e;cases e;exact hn rfl)];exact h.1
 ·rw[World.cell?_setCell_other _ _ _ _ (by intro e;cases e;exact hn rfl)];exact h.2.1
 ·rw[World.frozen?_setCell];exact h.2.2.1
 ·rw[World.frozen?_setCell];exact h.2.2.2
def pNew(s:ByteArray)(others:List ByteArray)(p:Nat):Pr (ByteArray×Nat):=pb (pName s p) λx q=>if inB x.1 others 0=true then .error (5,x.2) else .ok (x,q)
theorem pNew_bad{s:ByteArray}{others:List ByteArray}{p:Nat}(h:wordB (tokT s p)=false):pNew s others p=.error (2,tokA s p):=by unfold pNew pName;rw[if_neg (by simp[h]),pb_err]
theorem pNew_two{s:ByteArray}{others:List ByteArray}{p:Nat}(h:wordB (tokT s p)=true)(h2:inB (tokT s p) others 0=true):pNew s others p=.error (5,tokA s p):=by unfold pNew pName;rw[if_pos h,pb_ok,if_pos h2]
theorem pNew_ok{s:ByteArray}{others:List ByteArray}{p:Nat}(h:wordB (tokT s p)=true)(h2:inB (tokT s p) others 0=false):pNew s others p=.ok ((tokT s p,tokA s p),nxt s p):=by unfold pNew pName;rw[if_pos h,pb_ok,if_neg (by simp[h2])]
theorem word_ne{t:ByteArray}(h:wordB t=true):t≠⟨#[]⟩:=λe=>by rw[e,wordB_empty]at h;cases h
theorem newName_any'{B w:World}{P W:Nat}{adr:Nat->Addr}{s:ByteArray}{p nest:Nat}{gv v:Value}(l:Nms)(hs:s.size<=2000)(hl:l.length<=100000)(hB:PB B w P adr)(h:PS w P W s p gv nest)(hp:p<=s.size)(hN:NmAt w v l):
 Calls Tryz.prog 32 #[.pointer (some ⟨P,0,none⟩),v] w λe w'=>PRes (pNew s (l.map (·.1)) p) P w adr (.agg #[.string ⟨#[]⟩,.int .i64 0]) (λx q v w'=>v=.agg #[.string x.1,.int .i64 (x.2:Int)]∧q<=s.size∧PS w' P W s q gv nest) e w'∧(∀c a,pNew s (l.map (·.1)) p=.error (c,a)->Below w.heap.size w w'):=by
 obtain⟨np,nc,rfl,-⟩:=id hN;have HP:=hid (λw1 (hb:Below w.heap.size w w1)=>peek_any (h.below hb) hp);have HS:=hid h;have HSY:=hid hB.sy;have HN:=hid hN;have hz:=tokT_small hp hs;have F0:=fldW0;have F1:=fldW1;have hPl:=h.lt;have hWl:=h.wlt;clear h hB hN;have HB0:Hid (∀o,Below w.heap.size w (w.alloc o)):=λo=>(Below.refl _ _).alloc (Nat.le_refl _) _;have HR0:Hid (V2 (w.alloc (.cells #[.string ⟨#[]⟩,.int .i64 0] 91)) w.heap.size (.string ⟨#[]⟩) (.int .i64 0)):=⟨by simp,by simp,by simp,by simp⟩;cases hw:wordB (tokT s p) with
 |false=>
  have HT:=hid (pNew_bad (others:=l.map (·.1)) hw);have HW:=hid hw;clear hw;go_enter Tryz.func32,Tryz.ntmps32;go_wp2_with (first
   |(go_at_call 33;refine(HP.out _ (HB0.out _)).mono ?_;rintro e w1 ⟨rfl,hb1⟩;have HB1:Hid (Below w.heap.size w w1):=(HB0.out _).trans (hb1.mono (by simp));have HX:Hid (∀o,Below w.heap.size w (w1.alloc o)):=(λo=>HB1.out.alloc HB1.out.size _);have sy1:=λo=>(HSY.out.keep (HX.out o)).sy;have HR1:=hid (HR0.out.keep hb1);clear hb1)
   |(go_at_call 51;refine(synName_any _ _ hz).mono ?_;rintro e w' ⟨rfl,rfl⟩;rw[HW.out])
   |(go_at_call 50;refine(pwrong_any adr 12 (HS.out.below (HX.out _)) hp).mono ?_;rintro e w3 ⟨rfl,hb3⟩;have HB3:Hid (Below w.heap.size w w3):=(HX.out _).trans (hb3.mono (HX.out _).size);have HR3:=hid ((HR1.out.keep ((Below.refl _ _).alloc (Nat.le_refl _) _)).keep hb3);obtain⟨p0,p1,p2,p3⟩:=id HR3.out;clear hb3))
  obtain⟨s0,s1,-,-⟩:=HR3.out.put (.string ⟨#[]⟩) (.int .i64 0);refine bodyPost_ret (v:=.tuple #[.agg #[.string ⟨#[]⟩,.int .i64 0],pE' adr 12 (tokA s p)]) (by simp[results,Tryz.results32,go_sem,s0,s1]) rfl ?_;exact⟨PRes.bad HT.out (EF.of_below ((HB3.out.setCell (Nat.le_refl _) _).setCell (Nat.le_refl _) _)) rfl,λ_ _ _=>(HB3.out.setCell (Nat.le_refl _) _).setCell (Nat.le_refl _) _⟩
 |true=>
  have HW:=hid hw;cases hi:inB (tokT s p) (l.map (·.1)) 0 with
  |true=>
   have HT:=hid (pNew_two (others:=l.map (·.1)) hw hi);have HI:=hid hi;clear hw hi;go_enter Tryz.func32,Tryz.ntmps32;go_wp2_with (first
    |(go_at_call 33;refine(HP.out _ (HB0.out _)).mono ?_;rintro e w1 ⟨rfl,hb1⟩;have HB1:Hid (Below w.heap.size w w1):=(HB0.out _).trans (hb1.mono (by simp));have HX:Hid (∀o,Below w.heap.size w (w1.alloc o)):=(λo=>HB1.out.alloc HB1.out.size _);have HR1:=hid (HR0.out.keep hb1);clear hb1)
    |(go_at_call 51;refine(synName_any _ _ hz).mono ?_;rintro e w' ⟨rfl,rfl⟩;rw[HW.out])
    |(go_at_call 52;refine(Has_any l _ _ _ hl (HN.out.keep (HX.out _))).mono ?_;rintro e w2 ⟨rfl,hb2⟩;have HB2:Hid (Below w.heap.size w w2):=(HX.out _).trans (hb2.mono (HX.out _).size);have HR2:=hid ((HR1.out.keep ((Below.refl _ _).alloc (Nat.le_refl _) _)).keep hb2);have HV2:Hid (V2 w2 w1.heap.size (.string (tokT s p)) (.int .i64 (tokA s p:Int))):=V2.keep (w:=w1.alloc (.cells #[.string (tokT s p),.int .i64 (tokA s p:Int)] 87)) ⟨by simp,by simp,by simp,by simp⟩ hb2;obtain⟨v0,v1,v2,v3⟩:=id HV2.out;have tw2:=(HSY.out.keep HB2.out).tw;clear hb2;rw[HI.out])
    |(go_at_call 50;refine(pwrong_any adr 14 (HS.out.below HB2.out) hp).mono ?_;rintro e w3 ⟨rfl,hb3⟩;have HB3:Hid (Below w.heap.size w w3):=HB2.out.trans (hb3.mono HB2.out.size);have HR3:=hid (HR2.out.keep hb3);obtain⟨p0,p1,p2,p3⟩:=id HR3.out;clear hb3))
   obtain⟨s0,s1,-,-⟩:=HR3.out.put (.string ⟨#[]⟩) (.int .i64 0);refine bodyPost_ret (v:=.tuple #[.agg #[.string ⟨#[]⟩,.int .i64 0],pE' adr 14 (tokA s p)]) (by simp[results,Tryz.results32,go_sem,s0,s1]) rfl ?_;exact⟨PRes.bad HT.out (EF.of_below ((HB3.out.setCell (Nat.le_refl _) _).setCell (Nat.le_refl _) _)) rfl,λ_ _ _=>(HB3.out.setCell (Nat.le_refl _) _).setCell (Nat.le_refl _) _⟩
  |false=>
   have HT:=hid (pNew_ok (others:=l.map (·.1)) hw hi);have HI:=hid hi;have HNE:=hid (word_ne hw);clear hw hi;go_enter Tryz.func32,Tryz.ntmps32;go_wp2_with (first
    |(go_at_call 33;refine(HP.out _ (HB0.out _)).mono ?_;rintro e w1 ⟨rfl,hb1⟩;have HB1:Hid (Below w.heap.size w w1):=(HB0.out _).trans (hb1.mono (by simp));have HX:Hid (∀o,Below w.heap.size w (w1.alloc o)):=(λo=>HB1.out.alloc HB1.out.size _);have HR1:=hid (HR0.out.keep hb1);clear hb1)
    |(go_at_call 51;refine(synName_any _ _ hz).mono ?_;rintro e w' ⟨rfl,rfl⟩;rw[HW.out])
    |(go_at_call 52;refine(Has_any l _ _ _ hl (HN.out.keep (HX.out _))).mono ?_;rintro e w2 ⟨rfl,hb2⟩;have HB2:Hid (Below w.heap.size w w2):=(HX.out _).trans (hb2.mono (HX.out _).size);have HR2:=hid ((HR1.out.keep ((Below.refl _ _).alloc (Nat.le_refl _) _)).keep hb2);have HV2:Hid (V2 w2 w1.heap.size (.string (tokT s p)) (.int .i64 (tokA s p:Int))):=V2.keep (w:=w1.alloc (.cells #[.string (tokT s p),.int .i64 (tokA s p:Int)] 87)) ⟨by simp,by simp,by simp,by simp⟩ hb2;obtain⟨v0,v1,v2,v3⟩:=id HV2.out;have tw2:=(HSY.out.keep HB2.out).tw;clear hb2;rw[HI.out])
    |(go_at_call 34;refine(skip_any (HS.out.below HB2.out) hp).mono ?_;rintro e w3 ⟨rfl,hE3,hP3⟩;have HE3:=hid ((EF.of_below (E:=P) HB2.out).trans hE3);have HP3:=hid (hP3 HNE.out);have HV3:=hid (HV2.out.ef hE3 (Nat.ne_of_gt (Nat.lt_of_lt_of_le hPl HB1.out.size)));have HR3:=hid (HR2.out.ef hE3 (Nat.ne_of_gt hPl));obtain⟨p0,p1,p2,p3⟩:=id HR3.out;obtain⟨v0,v1,v2,v3⟩:=id HV3.out;clear hE3 hP3))
   obtain⟨s0,s1,-,-⟩:=HR3.out.put (.string (tokT s p)) (.int .i64 (tokA s p:Int));refine bodyPost_ret (v:=.tuple #[.agg #[.string (tokT s p),.int .i64 (tokA s p:Int)],.nilIface]) (by simp[results,Tryz.results32,go_sem,s0,s1]) rfl ?_;refine⟨PRes.ok HT.out ?_ ⟨rfl,nxt_le hp,?_⟩,λc a h=>by rw[HT.out]at h;cases h⟩
   ·exact ef_new (ef_new HE3.out (Nat.le_refl _)) (Nat.le_refl _)
   ·exact(HP3.out.far (Nat.ne_of_gt hPl) (Nat.ne_of_gt hWl)).far (Nat.ne_of_gt hPl) (Nat.ne_of_gt hWl)
theorem newName_any{B w:World}{P W:Nat}{adr:Nat->Addr}{s:ByteArray}{p nest:Nat}{gv v:Value}(l:Nms)(hs:s.size<=2000)(hl:l.length<=100000)(hB:PB B w P adr)(h:PS w P W s p gv nest)(hp:p<=s.size)(hN:NmAt w v l):
 Calls Tryz.prog 32 #[.pointer (some ⟨P,0,none⟩),v] w λe w'=>PRes (pNew s (l.map (·.1)) p) P w adr (.agg #[.string ⟨#[]⟩,.int .i64 0]) (λx q v w'=>v=.agg #[.string x.1,.int .i64 (x.2:Int)]∧q<=s.size∧PS w' P W s q gv nest) e w':=
 (newName_any' l hs hl hB h hp hN).mono λ_ _ h=>h.1
def pEb(adr:Nat->Addr)(k a:Nat):Value:=.agg #[.iface 217 (.pointer (some (adr k))),.int .i64 0,.int .i64 (a:Int)]
theorem ERes.isErr{r:Pr Unit}{P:Nat}{w w':World}{adr:Nat->Addr}{V:Nat->World->Prop}{e:Ending}{c a:Nat}(h:ERes r P w adr V e w')(hr:r=.error (c,a)):e=.returned (.iface 66 (pEb adr (kIx c) a))∧EF P w w':=by
 subst hr;exact⟨h.2,h.1⟩
theorem ERes.isOk{r:Pr Unit}{P:Nat}{w w':World}{adr:Nat->Addr}{V:Nat->World->Prop}{e:Ending}{u:Unit}{q:Nat}(h:ERes r P w adr V e w')(hr:r=.ok (u,q)):e=.returned .nilIface∧EF P w w'∧V q w':=by
 subst hr;exact⟨h.2.1,h.1,h.2.2⟩
theorem PRes.isErr{α:Type}{r:Pr α}{P:Nat}{w w':World}{adr:Nat->Addr}{Z:Value}{V:α->Nat->Value->World->Prop}{e:Ending}{c a:Nat}(h:PRes r P w adr Z V e w')(hr:r=.error (c,a)):e=.returned (.tuple #[Z,.iface 66 (pEb adr (kIx c) a)])∧EF P w w':=by
 subst hr;exact⟨h.2,h.1⟩
theorem PRes.isOk{α:Type}{r:Pr α}{P:Nat}{w w':World}{adr:Nat->Addr}{Z:Value}{V:α->Nat->Value->World->Prop}{e:Ending}{x:α}{q:Nat}(h:PRes r P w adr Z V e w')(hr:r=.ok (x,q)):∃v,e=.returned (.tuple #[v,.nilIface])∧EF P w w'∧V x q v w':=by
 subst hr;obtain⟨v,hv,hV⟩:=h.2;exact⟨v,hv,h.1,hV⟩
theorem pWants_one(s t:ByteArray)(p:Nat):pWants s [t] p=pWant s t p:=by
 show pb (pWant s t p) (λ_ q=>.ok ((),q))=_;match pWant s t p with
 |.error e=>rfl
 |.ok ((),q)=>rfl
theorem expect1_any{B w:World}{P W:Nat}{adr:Nat->Addr}{s:ByteArray}{p nest:Nat}{gv:Value}(t:ByteArray)(hB:PB B w P adr)(h:PS w P W s p gv nest)(hp:p<=s.size)(ht:t≠⟨#[]⟩):
 Calls Tryz.prog 31 #[.pointer (some ⟨P,0,none⟩),.slice (some ⟨w.heap.size,0,none⟩) 1 1] (w.alloc (.cells #[.string t] 9)) λe w'=>ERes (pWant s t p) P w adr (λq w'=>q<=s.size∧PS w' P W s q gv nest) e w':=by
 have hb:Below w.heap.size w (w.alloc (.cells #[.string t] 9)):=(Below.refl _ _).alloc (Nat.le_refl _) _;have hE:EF P w (w.alloc (.cells #[.string t] 9)):=EF.of_below hb;have hs:StrsAt (w.alloc (.cells #[.string t] 9)) P (.slice (some ⟨w.heap.size,0,none⟩) 1 1) [t]:=⟨w.heap.size,0,1,rfl,Nat.ne_of_gt h.lt,λi hi=>by
  have:i=0:=by simp at hi;exact hi
  subst this;simp⟩
 refine(expect_any (hB.ef hE) (h.below hb) hp hs (by simp) (λi hi=>by simp at hi)).mono ?_;rintro e w' ⟨h1,h2⟩;rw[pWants_one]at h2;refine⟨hE.trans h1,?_⟩;match hr:pWant s t p with
 |.error (c,a)=>rw[hr]at h2;exact h2
 |.ok ((),q)=>
  rw[hr]at h2;refine⟨h2.1,(fwd_want ht p hp () q hr).2,h2.2 λx hx=>?_⟩;simp at hx;rw[hx];exact ht
abbrev NmsO(w:World)(lo:Nat)(v:Value)(l:Nms):Prop:=RowS wC (λ_=>[]) (λ_ _=>True) 91 2 w lo v l
theorem Tryz.nameI:(Tryz.prog.info? 91).map (λi=>(i.zero,i.size,i.bytes))=some (some (.agg #[.string ⟨#[]⟩,.int .i64 0]),2,24):=by kernel_rfl
theorem flat_wC(l:Nms)(i:Nat)(hi:i<l.length):(l.flatMap wC)[i*2]?=some (.string l[i].1)∧(l.flatMap wC)[i*2+1]?=some (.int .i64 (l[i].2:Int)):=flat2_at (λx:ByteArray×Nat=>Value.string x.1) (λx=>Value.int .i64 (x.2:Int)) l i hi
theorem NmsO.nm{w:World}{lo:Nat}{v:Value}{l:Nms}(h:NmsO w lo v l):NmAt w v l:=by
 obtain⟨p,c,rfl⟩:=h.slice;refine⟨p,c,rfl,λhl=>?_⟩;rcases row_at h.own with⟨e,hn⟩|⟨g,cap,e,-,hc⟩
 ·exact absurd (List.eq_nil_of_length_eq_zero hn) hl
 ·cases e;have hg:=(h.rg g (List.mem_append_left _ (by rw[vB_slice];simp))).2;refine⟨g,0,rfl,hg,λi hi=>?_⟩;obtain⟨e0,e1⟩:=flat_wC l i hi;refine⟨?_,?_⟩
  ·rw[Nat.zero_add,hc (i*2) (by omega),e0]
  ·rw[Nat.zero_add,hc (i*2+1) (by omega),e1]
theorem RowS.ef{α:Type}{cells:α->List Value}{sub:α->List Nat}{ok:World->α->Prop}{e:TypeId}{size:Nat}(hok:OkFr sub ok){w w':World}{lo P:Nat}{v:Value}{xs:List α}(h:RowS cells sub ok e size w lo v xs)(hE:EF P w w')(hP:P<lo):RowS cells sub ok e size w' lo v xs:=
 h.fr hok hE.size λb hb=>hE.block b (h.rg b hb).2 (by have:=(h.rg b hb).1;omega)
theorem tClose_l:tClose.toList=[41]:=by rw[ByteArray.toList_eq];rfl
theorem tOpen_l:tOpen.toList=[40]:=by rw[ByteArray.toList_eq];rfl
theorem lit_t{s t:ByteArray}{l:List UInt8}(ht:t.toList=l)(h:s=t):(s.toList==l)=true:=by rw[h,ht];simp
theorem lit_f{s t:ByteArray}{l:List UInt8}(ht:t.toList=l)(h:¬s=t):(s.toList==l)=false:=by
 rw[beq_eq_false_iff_ne];intro e;exact h (toL_inj (by rw[e,ht]))
def slen:Value->Nat
 |.slice _ n _=>n
 |_=>0
structure NLSt (P W:Nat) (s:ByteArray) (gv:Value) (nest:Nat) (R:Pr Nms) (w wr:World) (got:Nms) (q:Nat) (vp:Option Addr) (vc:Nat):Prop where
 hq:q<=s.size
 ps:PS wr P W s q gv nest
 row:NmsO wr w.heap.size (.slice vp got.length vc) got
 ef:EF P w wr
 eq:R=pNamesL s (s.size+1-got.length) got q
 len:got.length<=q
theorem ef_push{P:Nat}{w X w2:World}{v:Value}{ob:Obj}(hE:EF P w X)(hv:∀b,v.ownBlock=some b->w.heap.size<=b)(hg:(X.alloc ob).grownBy w2 v.ownBlock):EF P w w2:=by
 have h1:EF P w (X.alloc ob):=hE.trans (EF.of_below ((Below.refl _ _).alloc (Nat.le_refl _) _));refine⟨hg.os.trans h1.os,hg.tape.trans h1.tape,hg.output.trans h1.output,Nat.le_trans h1.size hg.size,λk hk hn=>?_⟩;rw[hg.block k (Nat.lt_of_lt_of_le hk h1.size) (λe=>by have:=hv k e.symm;omega)];exact h1.block k hk hn
theorem PS.push{P W:Nat}{s:ByteArray}{p nest:Nat}{gv:Value}{X w2:World}{v:Value}{ob:Obj}(h:PS X P W s p gv nest)(hv:∀b,v.ownBlock=some b->b≠P∧b≠W)(hg:(X.alloc ob).grownBy w2 v.ownBlock):PS w2 P W s p gv nest:=by
 have h1:PS (X.alloc ob) P W s p gv nest:=h.below ((Below.refl _ _).alloc (Nat.le_refl _) _);have eP:=hg.block P h1.lt (λe=>(hv P e.symm).1 rfl);have eW:=hg.block W h1.wlt (λe=>(hv W e.symm).2 rfl);obtain⟨o,c,h0,hc,hc2,hne,hw⟩:=h1.c0;refine⟨⟨o,c,?_,hc,hc2,hne,λi hi=>⟨?_,?_⟩⟩,?_,?_,λj hj=>?_⟩
 ·rw[World.cell?_of_block (a:=⟨P,0,none⟩) eP];exact h0
 ·rw[World.cell?_of_block (a:=⟨W,o+i*2,none⟩) eW];exact(hw i hi).1
 ·rw[World.cell?_of_block (a:=⟨W,o+i*2+1,none⟩) eW];exact(hw i hi).2
 ·rw[World.cell?_of_block (a:=⟨P,1,none⟩) eP];exact h1.c1
 ·rw[World.cell?_of_block (a:=⟨P,2,none⟩) eP];exact h1.c2
 ·rw[World.frozen?_of_block (a:=⟨P,j,none⟩) eP];exact h1.f j hj
theorem namesL_end{s:ByteArray}{f:Nat}{got:Nms}{q:Nat}(h:tokT s q=tClose):pNamesL s (f+1) got q=.ok (got,nxt s q):=by rw[pNamesL];exact if_pos h
theorem namesL_go{s:ByteArray}{f:Nat}{got:Nms}{q:Nat}(h:¬tokT s q=tClose):pNamesL s (f+1) got q=pb (pNew s (got.map (·.1)) q) λx r=>pNamesL s f (got++[x]) r:=by
 rw[pNamesL];refine(if_neg h).trans ?_;unfold pNew;match pName s q with
 |.error e=>rfl
 |.ok (x,r)=>
  show(if inB x.1 (got.map (·.1)) 0=true then _ else _)=pb (if inB x.1 (got.map (·.1)) 0=true then _ else _) _;split<;>rfl
theorem NLSt.push{P W:Nat}{s:ByteArray}{gv:Value}{nest:Nat}{R:Pr Nms}{w wr X w2:World}{got:Nms}{q r:Nat}{vp:Option Addr}{vc:Nat}{x:ByteArray×Nat}{ob:Obj}(h:NLSt P W s gv nest R w wr got q vp vc)(hP:P<w.heap.size)(hW:W<w.heap.size)(hn:¬tokT s q=tClose)(hx:pNew s (got.map (·.1)) q=.ok (x,r))(hE:EF P wr X)(hS:PS X P W s r gv nest)
 (hg:(X.alloc ob).grownBy w2 (Value.slice vp got.length vc).ownBlock) {g c:Nat} (hat:(Value.slice vp got.length vc).ownBlock=some g∨g=(X.alloc ob).heap.size) (hlt:g<w2.heap.size)
 (hown:w2.ownsRow 0 91 2 (.slice (some ⟨g,0,none⟩) (got.length+1) c) (got.length+1) (got.flatMap wC++[.string x.1,.int .i64 (x.2:Int)])):
 NLSt P W s gv nest R w w2 (got++[x]) r (some ⟨g,0,none⟩) c:=by
 have hl:(got++[x]).length=got.length+1:=by simp
 have hrow:=h.row.ef okW hE hP;have hv:∀b,(Value.slice vp got.length vc).ownBlock=some b->w.heap.size<=b:=λb hb=>(hrow.rg b (List.mem_append_left _ (mem_vB.2 hb))).1;have hq:=h.hq;have hlen:=h.len;have hr:q+1<=r∧r<=s.size:=by
  obtain⟨y,q1,h1,h2⟩:=pb_inv hx;have:=fwd_name q hq y q1 h1;split at h2
  ·cases h2
  ·cases h2;exact this
 refine⟨hr.2,hS.push (λb hb=>⟨by have:=hv b hb;omega,by have:=hv b hb;omega⟩) hg,?_,ef_push (h.ef.trans hE) hv hg,?_,by omega⟩
 ·rw[hl];exact hrow.pushN okW (Nat.le_trans h.ef.size hE.size) trivial hg hat hlt hown
 ·rw[h.eq,show s.size+1-got.length=(s.size+1-(got++[x]).length)+1 by omega,namesL_go hn,hx,pb_ok]
theorem names_any{B w:World}{P W:Nat}{adr:Nat->Addr}{s:ByteArray}{p nest:Nat}{gv:Value}(hs:s.size<=2000)(hB:PB B w P adr)(h:PS w P W s p gv nest)(hp:p<=s.size):
 Calls Tryz.prog 68 #[.pointer (some ⟨P,0,none⟩)] w λe w'=>PRes (pNames s p) P w adr (.slice none 0 0) (λl q v w'=>q<=s.size∧PS w' P W s q gv nest∧NmsO w' w.heap.size v l) e w':=by
 have hPl:=h.lt;have hWl:=h.wlt;have HX:=hid (expect1_any tOpen hB h hp (by decide));have HB:=hid hB;obtain⟨ii,hii,hij⟩:=Option.map_eq_some_iff.1 Tryz.nameI;simp only[Prod.mk.injEq]at hij;obtain⟨hi0,hi1,hi2⟩:=hij;clear hB h;have F0:=fldW0;match hr:pWant s tOpen p with
 |.error (c,a)=>
  have HT:Hid (pNames s p=.error (c,a)):=by
   show pb (pWant s tOpen p) _=_;rw[hr,pb_err]
  have HR:=hid hr;clear hr;go_enter Tryz.func68,Tryz.ntmps68;go_wp2_with (first
   |(go_at_call 31;refine HX.out.mono ?_;rintro e w1 hr;obtain⟨rfl,hE1⟩:=hr.isErr HR.out;have HE1:=hid hE1;clear hr hE1))
  go_ret2
  exact PRes.bad HT.out HE1.out rfl
 |.ok ((),q0)=>
  have HT:Hid (pNames s p=pNamesL s (s.size+1) [] q0):=by
   show pb (pWant s tOpen p) _=_;rw[hr,pb_ok]
  have HR:=hid hr;clear hr;go_enter Tryz.func68,Tryz.ntmps68;go_wp2_with (first
   |(go_at_call 31;refine HX.out.mono ?_;rintro e w1 hr;obtain⟨rfl,hE1,hq1,hS1⟩:=hr.isOk HR.out;have HE1:=hid hE1;have HS1:=hid hS1;clear hr hE1 hS1))
  have HN0:Hid (NLSt P W s gv nest (pNamesL s (s.size+1) [] q0) w w1 [] q0 none 0):=⟨hq1,HS1.out,RowS.nil _ _,HE1.out,rfl,Nat.zero_le _⟩;generalize pNamesL s (s.size+1) [] q0=R at*;clear HS1 HX;go_loopw [5] (λlv wr=>∃(got:Nms) (q:Nat) (vp:Option Addr) (vc:Nat),lv=.slice vp got.length vc∧Hid (NLSt P W s gv nest R w wr got q vp vc)) (λlv _=>s.size+1-slen lv)
  case atStart=>exact⟨[],q0,none,0,rfl,HN0.out⟩
  case round=>
   clear HN0 HE1;obtain⟨got,q,vp,vc,rfl,HC⟩:=hrel;rename World=>wr
   have hq:=HC.out.hq;have hlen:=HC.out.len;have HP:=hid (peek_any HC.out.ps hq);have HBR:=hid (HB.out.ef HC.out.ef);by_cases hcl:tokT s q=tClose
   ·have HTE:Hid (R=.ok (got,nxt s q)):=by
     show _=_;rw[HC.out.eq,show s.size+1-got.length=(s.size-got.length)+1 by omega,namesL_end hcl]
    have b1:=lit_t tClose_l hcl;have HX2:=hid (λw1 (hb:Below wr.heap.size wr w1)=>expect1_any tClose (HBR.out.ef (EF.of_below hb)) (HC.out.ps.below hb) hq (by decide));have HW2:=hid (pWant_ok hcl);clear hcl;go_wp2_with (first
     |(go_at_call 33;refine HP.out.mono ?_;rintro e w1 ⟨rfl,hb1⟩;have HB1:=hid hb1;clear hb1)
     |(go_at_call 31;refine(HX2.out _ HB1.out).mono ?_;rintro e w2 hr;obtain⟨rfl,hE2,hq2,hS2⟩:=hr.isOk HW2.out;have HE2:=hid ((EF.of_below (E:=P) HB1.out).trans hE2);have HS2:=hid hS2;clear hr hE2 hS2))
    go_ret2
    exact PRes.ok (HT.out.trans HTE.out) (HC.out.ef.trans HE2.out) ⟨hq2,HS2.out,HC.out.row.ef okW HE2.out hPl⟩
   ·have b1:=lit_f tClose_l hcl;have HCL:=hid hcl;have HRG:Hid (R=pb (pNew s (got.map (·.1)) q) λx r=>pNamesL s (s.size-got.length) (got++[x]) r):=by
     show _=_;rw[HC.out.eq,show s.size+1-got.length=(s.size-got.length)+1 by omega,namesL_go hcl]
    have HNN:=hid (λw1 (hb:Below wr.heap.size wr w1)=>newName_any got hs (by omega) (HBR.out.ef (EF.of_below hb)) (HC.out.ps.below hb) hq (HC.out.row.nm.keep hb));clear hcl;match hx:pNew s (got.map (·.1)) q with
    |.error (c,a)=>
     have HTE:Hid (R=.error (c,a)):=by show _=_;rw[HRG.out,hx,pb_err]
     have HXX:=hid hx;clear hx;go_wp2_with (first
      |(go_at_call 33;refine HP.out.mono ?_;rintro e w1 ⟨rfl,hb1⟩;have HB1:=hid hb1;clear hb1)
      |(go_at_call 32;refine(HNN.out _ HB1.out).mono ?_;rintro e w2 hr;obtain⟨rfl,hE2⟩:=hr.isErr HXX.out;have HE2:=hid ((EF.of_below (E:=P) HB1.out).trans hE2);clear hr hE2))
     go_ret2
     exact PRes.bad (HT.out.trans HTE.out) (HC.out.ef.trans (HE2.out.trans (EF.of_below ((Below.refl _ _).alloc (Nat.le_refl _) _)))) rfl
    |.ok (x,r)=>
     have HXX:=hid hx;clear hx;go_wp2_with (first
      |(go_at_call 33;refine HP.out.mono ?_;rintro e w1 ⟨rfl,hb1⟩;have HB1:=hid hb1;clear hb1)
      |(go_at_call 32;refine(HNN.out _ HB1.out).mono ?_;rintro e w2 hr;obtain⟨v,rfl,hE2,rfl,hr2,hS2⟩:=hr.isOk HXX.out;have HE2:=hid ((EF.of_below (E:=P) HB1.out).trans hE2);have HS2:=hid hS2;clear hr hE2 hS2)
      |(at_builtin;refine wpList_append_lies _ rfl (.tmp 27) (.tmp 29) 59 rfl 0 91 ii _ 2 24 Tryz.underlying59 hii hi0 hi1 hi2 rfl (by omega) (.slice vp got.length vc) got.length (got.flatMap wC) rfl (((HC.out.row.ef okW HE2.out hPl).own.alloc _).alloc _) ⟨w2.heap.size+1,0,none⟩ 1 1 [.string x.1,.int .i64 (x.2:Int)] rfl rfl (by simpa using World.news_of_block (heap_alloc_new (w2.alloc (Obj.cells #[.string x.1,.int .i64 (x.2:Int)] 91)) (Obj.cells #[.string x.1,.int .i64 (x.2:Int)] 91))) (by intro u hu;simp at hu;rcases hu with rfl|rfl<;>rfl) (by omega) (by unfold maxLen;omega) (by omega) (Nat.zero_le _) _ rfl ?_;intro g1 k1 w7 hown hgrow hat hlt1;have HNX:=hid (HC.out.push hPl hWl HCL.out HXX.out (HE2.out.trans (EF.of_below ((Below.refl _ _).alloc (Nat.le_refl _) _))) (HS2.out.below ((Below.refl _ _).alloc (Nat.le_refl _) _)) hgrow hat hlt1 hown);clear hown hgrow hat hlt1))
     exact⟨⟨_,r,_,_,by rw[List.length_append];rfl,HNX.out⟩,by simp[slen];omega⟩
end Go.Proofs.YtlanckgcjijefaaGreatDoor
