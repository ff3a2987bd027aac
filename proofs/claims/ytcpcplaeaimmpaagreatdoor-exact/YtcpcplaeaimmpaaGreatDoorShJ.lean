import Derived.Test.YtcpcplaeaimmpaaGreatDoorPx4J
import Derived.Lib.ParseIntB
import Derived.Lib.Strings
import Derived.Shelf.SlGeneric
import Derived.Ground.NamesProg
import Derived.Ground.SlgfProg
import Derived.Shelf.Strings.Search3
import Derived.Shelf.Strings.Prefix
import Derived.Shelf.Strconv.ParseIntPublic10
import Derived.Shelf.SlicesQ.IndexFunc
set_option maxRecDepth 100000
set_option maxHeartbeats 4000000
namespace Go.Proofs.YtcpcplaeaimmpaaGreatDoor
open Go.RowKit Go.Sort
def StrsAt(w:World)(P:Nat)(v:Value)(ts:List ByteArray):Prop:=∃g o c,v=.slice (some ⟨g,o,none⟩) ts.length c∧g≠P∧∀i (hi:i<ts.length),w.cell? ⟨g,o+i,none⟩=some (.string ts[i])
def pWants(s:ByteArray):List ByteArray->Nat->Pr Unit
 |[],p=>.ok ((),p)
 |t::r,p=>pb (pWant s t p) λ_ q=>pWants s r q
def kIx(c:Nat):Nat:=if c=2 then 12 else if c=3 then 13 else if c=5 then 14 else if c=4 then 5 else 4
def ERes(r:Pr Unit)(P:Nat)(w:World)(adr:Nat->Addr)(V:Nat->World->Prop)(e:Ending)(w':World):Prop:=EF P w w'∧match r with
 |.ok (_,q)=>e=.returned .nilIface∧V q w'
 |.error (c,a)=>e=.returned (pE' adr (kIx c) a)
theorem pWant_ok{s t:ByteArray}{p:Nat}(h:tokT s p=t):pWant s t p=.ok ((),nxt s p):=by unfold pWant;rw[if_pos h]
theorem pWant_err{s t:ByteArray}{p:Nat}(h:¬tokT s p=t):pWant s t p=.error (2,tokA s p):=by unfold pWant;rw[if_neg h]
structure ExpSt (P W:Nat) (s:ByteArray) (gv:Value) (nest:Nat) (ts:List ByteArray) (R:Pr Unit) (w wr:World) (k q:Nat):Prop where
 le:k<=ts.length
 hq:q<=s.size
 ef:EF P w wr
 ps:(∀t∈ts.take k,t≠⟨#[]⟩)->PS wr P W s q gv nest
 eq:R=pWants s (ts.drop k) q
theorem expect_any{B w:World}{P W:Nat}{adr:Nat->Addr}{s:ByteArray}{p nest:Nat}{gv tv:Value}{ts:List ByteArray}(hB:PB B w P adr)(h:PS w P W s p gv nest)(hp:p<=s.size)(hT:StrsAt w P tv ts)(hl:ts.length<=10)(he:∀i (hi:i+1<ts.length),ts[i]≠⟨#[]⟩):
 Calls Tryz.prog 65 #[.pointer (some ⟨P,0,none⟩),tv] w λe w'=>ERes (pWants s ts p) P w adr (λq w'=>(∀t∈ts,t≠⟨#[]⟩)->PS w' P W s q gv nest) e w':=by
 obtain⟨g,o,c,rfl,hne,hc⟩:=hT;have HC:=hid hc;have HB:=hid hB;have H0:Hid (ExpSt P W s gv nest ts (pWants s ts p) w w 0 p):=⟨Nat.zero_le _,hp,EF.refl _ _,λ_=>h,rfl⟩;clear hc hB h hp;generalize pWants s ts p=R at*;go_enter Tryz.func65,Tryz.ntmps65;go_wp2;go_loopw [9] (λkv wr=>∃(k q:Nat),k<=ts.length∧kv=.int .i64 (k:Int)∧Hid (ExpSt P W s gv nest ts R w wr k q)) (λkv _=>ts.length-(intOf kv).toNat)
 case atStart=>exact⟨0,p,Nat.zero_le _,rfl,H0.out⟩
 case round=>
  clear H0;obtain⟨k,q,hk,rfl,HS⟩:=hrel;rename World=>wr
  have hq:=HS.out.hq;by_cases hlt:k<ts.length
  ·have h0:(0:Int)<=(k:Int):=by omega
   have h1:(k:Int)<(ts.length:Int):=by omega
   have HPS:Hid (PS wr P W s q gv nest):=by
    refine HS.out.ps λt ht=>?_;obtain⟨i,hi,rfl⟩:=List.getElem_of_mem ht;rw[List.getElem_take];rw[List.length_take]at hi;exact he i (by omega)
   have c0:=ef_cell HS.out.ef (HC.out k hlt) hne;have hnk:k+1<ts.length->ts[k]≠⟨#[]⟩:=λh=>he k h;have HR:Hid (R=pb (pWant s ts[k] q) λ_ q'=>pWants s (ts.drop (k+1)) q'):=by
    show _=_;rw[HS.out.eq,List.drop_eq_getElem_cons hlt,pWants]
   have HTK:Hid (ts.take (k+1)=ts.take k++[ts[k]]):=by show _=_;rw[List.take_succ_eq_append_getElem hlt]
   obtain⟨tk,htk⟩:∃t,ts[k]=t:=⟨_,rfl⟩;rw[htk]at c0 HR HTK hnk;have HNK:=hid hnk;clear htk hnk;have HP:=hid (peek_any HPS.out hq);have HSY:=hid (HB.out.ef HS.out.ef).sy;have F0:=fldW0;go_wp2_with (first
    |(go_at_call 67;refine HP.out.mono ?_;rintro e w1 ⟨rfl,hb1⟩;have HPS1:=hid (HPS.out.below hb1);have sy1:=(HSY.out.keep hb1).sy;have HE1:=hid (EF.of_below (E:=P) hb1);clear hb1)
    |(go_at_call 108;refine(pwrong_any adr 12 HPS1.out hq).mono ?_;rintro e w3 ⟨rfl,hb3⟩)
    |(go_at_call 68;refine(skip_any HPS1.out hq).mono ?_;rintro e w3 ⟨rfl,hE3,hP3⟩;have HE3:=hid hE3;have HP3:=hid hP3;clear hE3 hP3))
   ·rename_i hx
    have hne':¬tokT s q=tk:=λe=>by rw[e]at hx;simp at hx
    go_ret;refine⟨(HS.out.ef.trans HE1.out).trans (EF.of_below hb3),?_⟩;rw[HR.out,pWant_err hne',pb_err];rfl
   ·rename_i hx
    have heq:tokT s q=tk:=toL_inj (by simpa using hx);refine⟨⟨k+1,nxt s q,by omega,by go_num,?_⟩,by simp[intOf];omega⟩;refine⟨by omega,nxt_le hq,(HS.out.ef.trans HE1.out).trans HE3.out,λht=>?_,?_⟩
    ·exact HP3.out (by rw[heq];exact ht tk (by rw[HTK.out];simp))
    ·rw[HR.out,pWant_ok heq,pb_ok]
  ·obtain rfl:k=ts.length:=by omega
   have hge:¬(ts.length:Int)<(ts.length:Int):=by omega
   go_wp2;go_ret;refine⟨HS.out.ef,?_⟩;rw[HS.out.eq,List.drop_length];exact⟨rfl,λht=>HS.out.ps (by rw[List.take_length];exact ht)⟩
def dgv(n:Nat)(l:List UInt8):Nat:=l.foldl (λn c=>10*n+(c.toNat-48)) n
theorem dgv_nil(n:Nat):dgv n []=n:=rfl
theorem dgv_cons(n:Nat)(c:UInt8)(r:List UInt8):dgv n (c::r)=dgv (10*n+(c.toNat-48)) r:=by unfold dgv;rw[List.foldl_cons]
def digsL(l:List UInt8):Bool:=l.all λc=>digN c.toNat
theorem dgv_ge(l:List UInt8):∀n,n*10 ^ l.length<=dgv n l:=by
 induction l with
 |nil=>intro n;rw[dgv_nil];simp
 |cons c r ih=>
  intro n;have h:=ih (10*n+(c.toNat-48));rw[dgv_cons,List.length_cons,Nat.pow_succ];have h2:n*(10 ^ r.length*10)<=(10*n+(c.toNat-48))*10 ^ r.length:=by
   rw[Nat.add_mul,Nat.mul_assoc 10 n,<-Nat.mul_assoc n,Nat.mul_comm (n*10 ^ r.length) 10];omega
  omega
theorem dgv_mono(l:List UInt8):∀n,n<=dgv n l:=by
 intro n;have h:=dgv_ge l n;have h1:1<=10 ^ l.length:=Nat.pos_of_ne_zero (by intro h;have:=Nat.pow_eq_zero.1 h;omega);have:=Nat.mul_le_mul_left n h1;omega
theorem parseUintM_dgv(l:List UInt8):∀acc,acc<=18446744073709551615->digsL l=true->Lib.parseUintM 18446744073709551615 acc l=if dgv acc l<=18446744073709551615 then .ok (dgv acc l) else .range:=by
 induction l with
 |nil=>intro acc ha _;rw[Lib.parseUintM,dgv_nil,if_pos ha]
 |cons c r ih=>
  intro acc ha hd;simp only[digsL,List.all_cons,Bool.and_eq_true]at hd;have hc:48<=c.toNat∧c.toNat<=57:=by
   have:=hd.1;simp only[digN,Bool.and_eq_true,decide_eq_true_eq]at this;exact this
  rw[Lib.parseUintM,if_pos hc,dgv_cons];have hm:=dgv_mono r (10*acc+(c.toNat-48));by_cases h1:1844674407370955162<=acc
  ·rw[if_pos h1,if_neg (by omega)]
  ·rw[if_neg h1];by_cases h2:18446744073709551615<acc*10+(c.toNat-48)
   ·rw[if_pos h2,if_neg (by omega)]
   ·rw[if_neg h2,Nat.mul_comm acc 10];exact ih _ (by omega) hd.2
theorem dgs_dgv(d:ByteArray):∀(k i n:Nat),d.size-i<=k->dgs d i n=if digsL (d.data.toList.drop i)=true then some (dgv n (d.data.toList.drop i)) else none
 |0,i,n,hk=>by
  rw[dgs_end (by omega),List.drop_eq_nil_of_le (by simp;omega)];rfl
 |k+1,i,n,hk=>by
  by_cases h:i<d.size
  ·have hl:i<d.data.toList.length:=by simpa using h
   have e:d.data.toList.drop i=d[i]::d.data.toList.drop (i+1):=by
    rw[List.drop_eq_getElem_cons hl];rfl
   rw[e];cases hd:digN d[i].toNat with
   |true=>
    rw[dgs_step h hd,dgs_dgv d k (i+1) _ (by omega)];rw[dgv_cons];simp[digsL,hd]
   |false=>
    rw[dgs_bad h hd];simp[digsL,hd]
  ·rw[dgs_end (by omega),List.drop_eq_nil_of_le (by simp;omega)];rfl
def numB(d:ByteArray):Bool:=decide (0<d.size) && !(zeroB d && decide (1<d.size)) && digsL d.data.toList
def mZero:ByteArray:=⟨#[45,48]⟩
theorem zero_size{d:ByteArray}(h:zeroB d=true)(h1:d.size=1):d=⟨#[48]⟩:=by
 unfold zeroB at h;rw[getElem?_pos d 0 (by omega)]at h;simp only[decide_eq_true_eq]at h;apply ByteArray.ext;apply Array.ext
 ·exact h1
 ·intro i hi hi2;have hi0:i=0:=by
   have:i<1:=by simpa using hi2
   omega
  subst hi0;have:d[0]=48:=UInt8.toNat_inj.1 (by rw[h];rfl);exact this
theorem parseIntB_pos{s:ByteArray}(h0:0<s.size)(hd:digsL s.data.toList=true):Lib.parseIntB 64 s.data.toList=if dgv 0 s.data.toList<9223372036854775808 then .ok (dgv 0 s.data.toList:Int) else .range:=by
 have hl:0<s.data.toList.length:=by simpa using h0
 match hs:s.data.toList with
 |[]=>rw[hs]at hl;simp at hl
 |c::r=>
  have hc:digN c.toNat=true:=by
   rw[hs]at hd;simp only[digsL,List.all_cons,Bool.and_eq_true]at hd;exact hd.1
  have hc2:48<=c.toNat∧c.toNat<=57:=by
   simp only[digN,Bool.and_eq_true,decide_eq_true_eq]at hc;exact hc
  unfold Lib.parseIntB;rw[hs]at hd;simp only[Lib.parseUintB];rw[if_neg (show ¬(c.toNat=43∨c.toNat=45) by omega),if_neg (by simp)];have:=parseUintM_dgv (c::r) 0 (by omega) hd;rw[show 2 ^ 64-1=18446744073709551615 by rfl,this];by_cases hb:dgv 0 (c::r)<=18446744073709551615
  ·rw[if_pos hb];simp only;rw[show(2:Nat) ^ (64-1)=9223372036854775808 by rfl];by_cases h3:dgv 0 (c::r)<9223372036854775808
   ·rw[if_neg (by omega),if_neg (by omega),if_pos h3,if_neg (by omega)]
   ·rw[if_pos ⟨by omega,by omega⟩,if_neg h3]
  ·rw[if_neg hb,if_neg (by omega)]
theorem parseIntB_neg{s:ByteArray}{r:List UInt8}(hs:s.data.toList=45::r)(hr:r≠[])(hd:digsL r=true):Lib.parseIntB 64 s.data.toList=if dgv 0 r<=9223372036854775808 then .ok (-(dgv 0 r:Int)) else .range:=by
 rw[hs];unfold Lib.parseIntB;simp only[Lib.parseUintB];have e45:(45:UInt8).toNat=45:=rfl;rw[if_pos (Or.inr e45),if_neg hr];have:=parseUintM_dgv r 0 (by omega) hd;rw[show 2 ^ 64-1=18446744073709551615 by rfl,this];by_cases hb:dgv 0 r<=18446744073709551615
 ·rw[if_pos hb];simp only;rw[show(2:Nat) ^ (64-1)=9223372036854775808 by rfl];by_cases h3:dgv 0 r<=9223372036854775808
  ·rw[if_neg (by simp),if_neg (by omega),if_pos h3,if_pos e45]
  ·rw[if_neg (by simp),if_pos ⟨e45,by omega⟩,if_neg h3]
 ·rw[if_neg hb,if_neg (by omega)]
theorem negB_false{s:ByteArray}(h:negB s=false):∀r,s.data.toList≠45::r:=by
 intro r e;have hl:0<s.size:=by
  have:0<s.data.toList.length:=by rw[e];simp
  simpa using this
 unfold negB at h;rw[getElem?_pos s 0 hl]at h;simp only[decide_eq_false_iff_not]at h;apply h;have h2:s.data.toList[0]'(by rw[e];simp)=45:=by simp[e]
 have h3:s[0]=s.data.toList[0]'(by rw[e];simp):=rfl;rw[h3,h2];rfl
theorem negB_true{s:ByteArray}(h:negB s=true):s.data.toList=45::(s.extract 1 s.size).data.toList:=by
 unfold negB at h;by_cases hl:0<s.size
 ·rw[getElem?_pos s 0 hl]at h;simp only[decide_eq_true_eq]at h;have h0:s[0]=45:=UInt8.toNat_inj.1 (by rw[h];rfl);have hl':0<s.data.toList.length:=by simpa using hl
  have e:s.data.toList=s[0]::s.data.toList.drop 1:=by
   have:=List.drop_eq_getElem_cons hl';rw[List.drop_zero]at this;exact this
  rw[h0]at e;rw[ByteArray.data_extract,Array.toList_extract];conv=>lhs;rw[e]
  congr 1
  rw[List.extract_eq_take_drop];rw[List.take_of_length_le];simp
 ·rw[getElem?_neg s 0 hl]at h;simp at h
theorem trim_abs(s:ByteArray):(⟨(Lib.trimPrefix s.data.toList [45]).toArray⟩:ByteArray)=absP s:=by
 unfold Lib.trimPrefix Lib.hasPrefix absP;cases h:negB s with
 |true=>
  have e:=negB_true h;have hp:List.isPrefixOf [45] s.data.toList=true:=by rw[e];simp[List.isPrefixOf]
  rw[if_pos hp,if_pos rfl];have e2:s.data.toList.drop ([45]:List UInt8).length=(s.extract 1 s.size).data.toList:=by rw[e];rfl
  rw[e2]
 |false=>
  have hn:=negB_false h;have hp:List.isPrefixOf [45] s.data.toList=false:=by
   match hs:s.data.toList with
   |[]=>rfl
   |c::r=>
    simp only[List.isPrefixOf,Bool.and_true,beq_eq_false_iff_ne,ne_eq];intro e;exact hn r (by rw[hs,<-e])
  rw[if_neg (by simp[hp]),if_neg (by simp)]
theorem negB_one:negB ⟨#[48]⟩=false:=by decide
theorem abs_one:absP ⟨#[48]⟩=⟨#[48]⟩:=by unfold absP;rw[negB_one];rfl
theorem dgs_num(d:ByteArray):dgs d 0 0=if digsL d.data.toList=true then some (dgv 0 d.data.toList) else none:=by
 rw[dgs_dgv d _ 0 0 (Nat.le_refl _),List.drop_zero]
theorem whole_bad{s:ByteArray}(h:numB (absP s)=false∨s=mZero):wholeP s=none:=by
 rcases h with h|rfl
 ·unfold wholeP;by_cases hc:(absP s).size=0∨(zeroB (absP s)=true∧¬s=⟨#[48]⟩)∨19<(absP s).size
  ·rw[if_pos hc]
  ·rw[if_neg hc];have hd:digsL (absP s).data.toList=false:=by
    cases hd:digsL (absP s).data.toList with
    |false=>rfl
    |true=>
     exfalso;have h0:0<(absP s).size:=by omega
     unfold numB at h;rw[hd]at h;simp only[h0,decide_true,Bool.true_and,Bool.and_true,Bool.not_eq_false',Bool.and_eq_true,decide_eq_true_eq]at h;by_cases hs:s=⟨#[48]⟩
     ·rw[hs,abs_one]at h;exact absurd h.2 (by decide)
     ·exact hc (Or.inr (Or.inl ⟨h.1,hs⟩))
   rw[dgs_num,if_neg (by simp[hd])]
 ·unfold wholeP;rw[if_pos];exact Or.inr (Or.inl ⟨by decide,by decide⟩)
theorem pow19:(10:Nat) ^ 19=10000000000000000000:=by decide
theorem dgv_big{d:ByteArray}(hd:digsL d.data.toList=true)(hz:zeroB d=false)(h:19<d.size):10000000000000000000<=dgv 0 d.data.toList:=by
 have hl:19<d.data.toList.length:=by simpa using h
 match hs:d.data.toList with
 |[]=>rw[hs]at hl;simp at hl
 |c::r=>
  have h0:d[0]'(by omega)=c:=by
   have h2:d.data.toList[0]'(by omega)=c:=by simp[hs]
   exact h2
  unfold zeroB at hz;rw[getElem?_pos d 0 (by omega),h0]at hz;simp only[decide_eq_false_iff_not]at hz;have hc:48<=c.toNat∧c.toNat<=57:=by
   rw[hs]at hd;simp only[digsL,List.all_cons,Bool.and_eq_true,digN,decide_eq_true_eq]at hd;exact hd.1
  rw[hs,List.length_cons]at hl;rw[dgv_cons];have h1:=dgv_ge r (10*0+(c.toNat-48));have h2:(10:Nat) ^ 19<=10 ^ r.length:=Nat.pow_le_pow_right (by omega) (by omega);rw[pow19]at h2;have h3:1*10 ^ r.length<=(10*0+(c.toNat-48))*10 ^ r.length:=Nat.mul_le_mul_right _ (by omega);omega
theorem whole_num{s:ByteArray}(h:numB (absP s)=true)(hm:s≠mZero):Lib.parseIntB 64 s.data.toList=match wholeP s with|some v=>.ok v|none=>.range:=by
 unfold numB at h;simp only[Bool.and_eq_true,decide_eq_true_eq,Bool.not_eq_true',Bool.and_eq_false_iff,decide_eq_false_iff_not]at h;obtain⟨⟨h0,hz⟩,hd⟩:=h;have hc2:¬(zeroB (absP s)=true∧¬s=⟨#[48]⟩):=by
  rintro⟨k1,k2⟩;have k3:(absP s).size=1:=by
   rcases hz with hz|hz
   ·rw[hz]at k1;cases k1
   ·omega
  have k4:=zero_size k1 k3;cases hn:negB s with
  |true=>
   apply hm;have e:=negB_true hn;have ea:absP s=s.extract 1 s.size:=by unfold absP;rw[if_pos hn]
   rw[<-ea,k4]at e;apply ByteArray.ext;apply Array.toList_inj.1;rw[e];rfl
  |false=>
   have ea:absP s=s:=by unfold absP;rw[if_neg (by simp[hn])]
   exact k2 (by rw[<-ea,k4])
 cases hn:negB s with
 |true=>
  have e:=negB_true hn;have ea:absP s=s.extract 1 s.size:=by unfold absP;rw[if_pos hn]
  rw[<-ea]at e;have hr:(absP s).data.toList≠[]:=by
   intro e2;have:(absP s).data.toList.length=0:=by rw[e2];rfl
   have h3:(absP s).data.toList.length=(absP s).size:=by simp
   omega
  rw[parseIntB_neg e hr hd];unfold wholeP;by_cases h19:19<(absP s).size
  ·rw[if_pos (Or.inr (Or.inr h19))];have hz':zeroB (absP s)=false:=by rcases hz with hz|hz;exact hz;omega
   have:=dgv_big hd hz' h19;rw[if_neg (by omega)]
  ·have hcond:¬((absP s).size=0∨(zeroB (absP s)=true∧¬s=⟨#[48]⟩)∨19<(absP s).size):=λk=>by
    rcases k with k|k|k
    ·omega
    ·exact hc2 k
    ·omega
   rw[if_neg hcond,dgs_num,if_pos hd];simp only[hn,if_true];by_cases hb:dgv 0 (absP s).data.toList<=9223372036854775808
   ·rw[if_pos hb,if_pos hb]
   ·rw[if_neg hb,if_neg hb]
 |false=>
  have ea:absP s=s:=by unfold absP;rw[if_neg (by simp[hn])]
  rw[ea]at h0 hd hz hc2;rw[parseIntB_pos h0 hd];unfold wholeP;rw[ea];by_cases h19:19<s.size
  ·rw[if_pos (Or.inr (Or.inr h19))];have hz':zeroB s=false:=by rcases hz with hz|hz;exact hz;omega
   have:=dgv_big hd hz' h19;rw[if_neg (by omega)]
  ·have hcond:¬(s.size=0∨(zeroB s=true∧¬s=⟨#[48]⟩)∨19<s.size):=λk=>by
    rcases k with k|k|k
    ·omega
    ·exact hc2 k
    ·omega
   rw[if_neg hcond,dgs_num,if_pos hd];simp only[hn];by_cases hb:dgv 0 s.data.toList<9223372036854775808
   ·rw[if_pos hb];simp[hb]
   ·rw[if_neg hb];simp[hb]
end Go.Proofs.YtcpcplaeaimmpaaGreatDoor
namespace Go.Proofs.YtcpcplaeaimmpaaGreatDoor
open Go.Shelf
def Tryz.lays144_ren:Go.Shelf.Ren:=⟨fun|144=>129|143=>164|219=>205|217=>245|225=>246|224=>247|267=>248|266=>275|314=>276|n=>n,fun|9=>9|4=>4|3=>3|5=>5|46=>119|146=>419|51=>117|n=>n,fun|1=>21|n=>n⟩
theorem Tryz.lays144:Go.Proofs.Lays.n144 Tryz.prog Tryz.lays144_ren:={
 mixed:=by kernel_rfl
 f143:=Tryz.func164.trans (congrArg some (by kernel_rfl))
 f144:=Tryz.func129.trans (congrArg some (by kernel_rfl))
 f217:=Tryz.func245.trans (congrArg some (by kernel_rfl))
 f219:=Tryz.func205.trans (congrArg some (by kernel_rfl))
 f224:=Tryz.func247.trans (congrArg some (by kernel_rfl))
 f225:=Tryz.func246.trans (congrArg some (by kernel_rfl))
 f266:=Tryz.func275.trans (congrArg some (by kernel_rfl))
 f267:=Tryz.func248.trans (congrArg some (by kernel_rfl))
 f314:=Tryz.func276.trans (congrArg some (by kernel_rfl))
 t3:=Tryz.underlying3
 a3:=Tryz.isAgg3
 z3:=Tryz.sizeOf3
 v3:=Tryz.zeroValue3
 t4:=Tryz.underlying4
 a4:=Tryz.isAgg4
 z4:=Tryz.sizeOf4
 v4:=Tryz.zeroValue4
 t5:=Tryz.underlying5
 a5:=Tryz.isAgg5
 z5:=Tryz.sizeOf5
 v5:=Tryz.zeroValue5
 t9:=Tryz.underlying9
 a9:=Tryz.isAgg9
 z9:=Tryz.sizeOf9
 v9:=Tryz.zeroValue9
 t46:=Tryz.underlying119
 a46:=Tryz.isAgg119
 z46:=Tryz.sizeOf119
 v46:=Tryz.zeroValue119
 t51:=Tryz.underlying117
 a51:=Tryz.isAgg117
 z51:=Tryz.sizeOf117
 v51:=Tryz.zeroValue117
 t146:=Tryz.underlying419
 a146:=Tryz.isAgg419
 z146:=Tryz.sizeOf419
 v146:=Tryz.zeroValue419
 g1:=by kernel_rfl}
def Tryz.lays101_ren:Go.Shelf.Ren:=⟨fun|101=>232|208=>266|206=>283|n=>n,fun|9=>9|4=>4|3=>3|n=>n,fun|n=>n⟩
theorem Tryz.lays101:Go.Proofs.Lays.n101 Tryz.prog Tryz.lays101_ren:={
 mixed:=by kernel_rfl
 f101:=Tryz.func232.trans (congrArg some (by kernel_rfl))
 f206:=Tryz.func283.trans (congrArg some (by kernel_rfl))
 f208:=Tryz.func266.trans (congrArg some (by kernel_rfl))
 t3:=Tryz.underlying3
 a3:=Tryz.isAgg3
 z3:=Tryz.sizeOf3
 v3:=Tryz.zeroValue3
 t4:=Tryz.underlying4
 a4:=Tryz.isAgg4
 z4:=Tryz.sizeOf4
 v4:=Tryz.zeroValue4
 t9:=Tryz.underlying9
 a9:=Tryz.isAgg9
 z9:=Tryz.sizeOf9
 v9:=Tryz.zeroValue9}
def Tryz.laysC174_ren:Go.Shelf.Ren:=⟨fun|174=>233|247=>267|245=>268|287=>284|279=>285|280=>286|281=>287|282=>288|321=>295|322=>296|316=>90|171=>104|205=>297|243=>141|246=>181|283=>226|284=>227|285=>228|286=>229|129=>199|317=>256|318=>257|319=>258|320=>259|337=>279|338=>280|n=>n,fun|9=>9|3=>3|2=>2|75=>49|85=>383|4=>4|167=>428|5=>5|53=>192|175=>214|46=>119|168=>430|37=>40|0=>0|210=>443|21=>21|127=>267|145=>449|143=>447|171=>378|173=>380|212=>401|51=>117|20=>20|213=>402|232=>439|233=>440|80=>451|n=>n,fun|15=>25|16=>26|17=>22|18=>23|19=>24|n=>n⟩
theorem Tryz.laysC174:Go.Proofs.LaysC.n174 Tryz.prog Tryz.laysC174_ren:={
 mixed:=by kernel_rfl
 f129:=Tryz.func199.trans (congrArg some (by kernel_rfl))
 f171:=Tryz.func104.trans (congrArg some (by kernel_rfl))
 f174:=Tryz.func233.trans (congrArg some (by kernel_rfl))
 f205:=Tryz.func297.trans (congrArg some (by kernel_rfl))
 f243:=Tryz.func141.trans (congrArg some (by kernel_rfl))
 f245:=Tryz.func268.trans (congrArg some (by kernel_rfl))
 f246:=Tryz.func181.trans (congrArg some (by kernel_rfl))
 f247:=Tryz.func267.trans (congrArg some (by kernel_rfl))
 f279:=Tryz.func285.trans (congrArg some (by kernel_rfl))
 f280:=Tryz.func286.trans (congrArg some (by kernel_rfl))
 f281:=Tryz.func287.trans (congrArg some (by kernel_rfl))
 f282:=Tryz.func288.trans (congrArg some (by kernel_rfl))
 f283:=Tryz.func226.trans (congrArg some (by kernel_rfl))
 f284:=Tryz.func227.trans (congrArg some (by kernel_rfl))
 f285:=Tryz.func228.trans (congrArg some (by kernel_rfl))
 f286:=Tryz.func229.trans (congrArg some (by kernel_rfl))
 f287:=Tryz.func284.trans (congrArg some (by kernel_rfl))
 f316:=Tryz.func90.trans (congrArg some (by kernel_rfl))
 f317:=Tryz.func256.trans (congrArg some (by kernel_rfl))
 f318:=Tryz.func257.trans (congrArg some (by kernel_rfl))
 f319:=Tryz.func258.trans (congrArg some (by kernel_rfl))
 f320:=Tryz.func259.trans (congrArg some (by kernel_rfl))
 f321:=Tryz.func295.trans (congrArg some (by kernel_rfl))
 f322:=Tryz.func296.trans (congrArg some (by kernel_rfl))
 f337:=Tryz.func279.trans (congrArg some (by kernel_rfl))
 f338:=Tryz.func280.trans (congrArg some (by kernel_rfl))
 t0:=Tryz.underlying0
 a0:=Tryz.isAgg0
 z0:=Tryz.sizeOf0
 v0:=Tryz.zeroValue0
 t2:=Tryz.underlying2
 a2:=Tryz.isAgg2
 z2:=Tryz.sizeOf2
 v2:=Tryz.zeroValue2
 t3:=Tryz.underlying3
 a3:=Tryz.isAgg3
 z3:=Tryz.sizeOf3
 v3:=Tryz.zeroValue3
 t4:=Tryz.underlying4
 a4:=Tryz.isAgg4
 z4:=Tryz.sizeOf4
 v4:=Tryz.zeroValue4
 t5:=Tryz.underlying5
 a5:=Tryz.isAgg5
 z5:=Tryz.sizeOf5
 v5:=Tryz.zeroValue5
 t9:=Tryz.underlying9
 a9:=Tryz.isAgg9
 z9:=Tryz.sizeOf9
 v9:=Tryz.zeroValue9
 t20:=Tryz.underlying20
 a20:=Tryz.isAgg20
 z20:=Tryz.sizeOf20
 v20:=Tryz.zeroValue20
 t21:=Tryz.underlying21
 a21:=Tryz.isAgg21
 z21:=Tryz.sizeOf21
 v21:=Tryz.zeroValue21
 t37:=Tryz.underlying40
 a37:=Tryz.isAgg40
 z37:=Tryz.sizeOf40
 v37:=Tryz.zeroValue40
 t46:=Tryz.underlying119
 a46:=Tryz.isAgg119
 z46:=Tryz.sizeOf119
 v46:=Tryz.zeroValue119
 t51:=Tryz.underlying117
 a51:=Tryz.isAgg117
 z51:=Tryz.sizeOf117
 v51:=Tryz.zeroValue117
 t53:=Tryz.underlying192
 a53:=Tryz.isAgg192
 z53:=Tryz.sizeOf192
 v53:=Tryz.zeroValue192
 t75:=Tryz.underlying49
 a75:=Tryz.isAgg49
 z75:=Tryz.sizeOf49
 v75:=Tryz.zeroValue49
 t85:=Tryz.underlying383
 a85:=Tryz.isAgg383
 z85:=Tryz.sizeOf383
 v85:=Tryz.zeroValue383
 t127:=Tryz.underlying267
 a127:=Tryz.isAgg267
 z127:=Tryz.sizeOf267
 v127:=Tryz.zeroValue267
 t143:=Tryz.underlying447
 a143:=Tryz.isAgg447
 z143:=Tryz.sizeOf447
 v143:=Tryz.zeroValue447
 t145:=Tryz.underlying449
 a145:=Tryz.isAgg449
 z145:=Tryz.sizeOf449
 v145:=Tryz.zeroValue449
 t167:=Tryz.underlying428
 a167:=Tryz.isAgg428
 z167:=Tryz.sizeOf428
 v167:=Tryz.zeroValue428
 t168:=Tryz.underlying430
 a168:=Tryz.isAgg430
 z168:=Tryz.sizeOf430
 v168:=Tryz.zeroValue430
 t171:=Tryz.underlying378
 a171:=Tryz.isAgg378
 z171:=Tryz.sizeOf378
 v171:=Tryz.zeroValue378
 t173:=Tryz.underlying380
 a173:=Tryz.isAgg380
 z173:=Tryz.sizeOf380
 v173:=Tryz.zeroValue380
 t175:=Tryz.underlying214
 a175:=Tryz.isAgg214
 z175:=Tryz.sizeOf214
 v175:=Tryz.zeroValue214
 t210:=Tryz.underlying443
 a210:=Tryz.isAgg443
 z210:=Tryz.sizeOf443
 v210:=Tryz.zeroValue443
 t212:=Tryz.underlying401
 a212:=Tryz.isAgg401
 z212:=Tryz.sizeOf401
 v212:=Tryz.zeroValue401
 t213:=Tryz.underlying402
 a213:=Tryz.isAgg402
 z213:=Tryz.sizeOf402
 t232:=Tryz.underlying439
 a232:=Tryz.isAgg439
 z232:=Tryz.sizeOf439
 v232:=Tryz.zeroValue439
 t233:=Tryz.underlying440
 a233:=Tryz.isAgg440
 z233:=Tryz.sizeOf440
 v233:=Tryz.zeroValue440
 g15:=by kernel_rfl
 g16:=by kernel_rfl
 g17:=by kernel_rfl
 g18:=by kernel_rfl
 g19:=by kernel_rfl
 t80:=Tryz.underlying451
 a80:=Tryz.isAgg451
 z80:=Tryz.sizeOf451
 v80:=Tryz.zeroValue451
 i0:=by kernel_rfl
 i2:=by kernel_rfl
 i3:=by kernel_rfl
 i4:=by kernel_rfl
 i5:=by kernel_rfl
 i9:=by kernel_rfl
 i20:=by kernel_rfl
 i21:=by kernel_rfl
 i37:=by kernel_rfl
 i46:=by kernel_rfl
 i51:=by kernel_rfl
 i53:=by kernel_rfl
 i75:=by kernel_rfl
 i80:=by kernel_rfl
 i85:=by kernel_rfl
 i127:=by kernel_rfl
 i143:=by kernel_rfl
 i145:=by kernel_rfl
 i167:=by kernel_rfl
 i168:=by kernel_rfl
 i171:=by kernel_rfl
 i173:=by kernel_rfl
 i175:=by kernel_rfl
 i210:=by kernel_rfl
 i212:=by kernel_rfl
 i232:=by kernel_rfl
 i233:=by kernel_rfl
 m15:=by kernel_rfl
 m16:=by kernel_rfl
 m17:=by kernel_rfl
 m18:=by kernel_rfl
 m19:=by kernel_rfl
 c0:=by kernel_rfl
 c2:=by kernel_rfl
 c3:=by kernel_rfl
 c4:=by kernel_rfl
 c5:=by kernel_rfl
 c9:=by kernel_rfl
 c20:=by kernel_rfl
 c21:=by kernel_rfl
 c37:=by kernel_rfl
 c46:=by kernel_rfl
 c51:=by kernel_rfl
 c53:=by kernel_rfl
 c75:=by kernel_rfl
 c80:=by kernel_rfl
 c85:=by kernel_rfl
 c127:=by kernel_rfl
 c143:=by kernel_rfl
 c145:=by kernel_rfl
 c167:=by kernel_rfl
 c168:=by kernel_rfl
 c171:=by kernel_rfl
 c173:=by kernel_rfl
 c175:=by kernel_rfl
 c210:=by kernel_rfl
 c212:=by kernel_rfl
 c213:=by kernel_rfl
 c232:=by kernel_rfl
 c233:=by kernel_rfl}
def Tryz.laysCF_ren:Go.Shelf.Ren:=⟨fun|8=>144|6=>183|n=>n,fun|22=>105|23=>170|25=>291|4=>4|3=>3|0=>0|n=>n,fun|n=>n⟩
theorem Tryz.laysCF:Go.Proofs.SlLaysH0.n8 Tryz.prog Tryz.laysCF_ren:={
 mixed:=by kernel_rfl
 f6:=⟨Tryz.f183.name,by decide,Tryz.func183.trans (congrArg some (by kernel_rfl))⟩
 f8:=⟨Tryz.f144.name,by decide,Tryz.func144.trans (congrArg some (by kernel_rfl))⟩
 t0:=Tryz.underlying0
 a0:=Tryz.isAgg0
 z0:=Tryz.sizeOf0
 v0:=Tryz.zeroValue0
 t3:=Tryz.underlying3
 a3:=Tryz.isAgg3
 z3:=Tryz.sizeOf3
 v3:=Tryz.zeroValue3
 t4:=Tryz.underlying4
 a4:=Tryz.isAgg4
 z4:=Tryz.sizeOf4
 v4:=Tryz.zeroValue4
 t22:=Tryz.underlying105
 a22:=Tryz.isAgg105
 z22:=Tryz.sizeOf105
 v22:=Tryz.zeroValue105
 t25:=Tryz.underlying291
 a25:=Tryz.isAgg291
 z25:=Tryz.sizeOf291
 v25:=Tryz.zeroValue291}
end Go.Proofs.YtcpcplaeaimmpaaGreatDoor
