import Derived.Test.YtglihimiidiacaaGreatDoorCn
import Derived.Lib.ParseIntB
import Derived.Lib.Strings
import Derived.Shelf.SlGeneric
import Derived.Ground.NamesProg
import Derived.Ground.SlgfProg
import Derived.Shelf.Strings.Search3
import Derived.Shelf.Strings.Prefix
import Derived.Shelf.Strconv.ParseIntPublic10
import Derived.Shelf.SlicesQ.IndexFunc
import Derived.Test.YtglihimiidiacaaGreatDoorProg
import Derived.Lib.SmallJoins
import Derived.Laws.OwnMore
import Derived.Deep.Upon
import Derived.Deep.RegionHeldLaw
import Derived.Deep.RegionHeld3
import Derived.StillTail
import Derived.Lib.ItoaNum
import Derived.Lib.ItoaLen
namespace Go.Proofs.YtglihimiidiacaaGreatDoor
open Go.RowKit Go.Sort
def dgv(n:Nat)(l:List UInt8):Nat:=l.foldl (fun n c=>10*n+(c.toNat-48)) n
theorem dgv_nil(n:Nat):dgv n []=n:=rfl
theorem dgv_cons(n:Nat)(c:UInt8)(r:List UInt8):dgv n (c::r)=dgv (10*n+(c.toNat-48)) r:=by unfold dgv;rw[List.foldl_cons]
def digsL(l:List UInt8):Bool:=l.all fun c=>digN c.toNat
theorem dgv_ge(l:List UInt8):∀n,n*10 ^ l.length≤dgv n l:=by
 induction l with
 |nil=>intro n;rw[dgv_nil];simp
 |cons c r ih=>
  intro n;have h:=ih (10*n+(c.toNat-48));rw[dgv_cons,List.length_cons,Nat.pow_succ];have h2:n*(10 ^ r.length*10)≤(10*n+(c.toNat-48))*10 ^ r.length:=by
   rw[Nat.add_mul,Nat.mul_assoc 10 n,←Nat.mul_assoc n,Nat.mul_comm (n*10 ^ r.length) 10];omega
  omega
theorem dgv_mono(l:List UInt8):∀n,n≤dgv n l:=by
 intro n;have h:=dgv_ge l n;have h1:1≤10 ^ l.length:=Nat.pos_of_ne_zero (by intro h;have:=Nat.pow_eq_zero.1 h;omega);have:=Nat.mul_le_mul_left n h1;omega
theorem parseUintM_dgv(l:List UInt8):∀acc,acc≤18446744073709551615→digsL l=true→Lib.parseUintM 18446744073709551615 acc l=if dgv acc l≤18446744073709551615 then .ok (dgv acc l) else .range:=by
 induction l with
 |nil=>intro acc ha _;rw[Lib.parseUintM,dgv_nil,if_pos ha]
 |cons c r ih=>
  intro acc ha hd;simp only[digsL,List.all_cons,Bool.and_eq_true]at hd;have hc:48≤c.toNat∧c.toNat≤57:=by
   have:=hd.1;simp only[digN,Bool.and_eq_true,decide_eq_true_eq]at this;exact this
  rw[Lib.parseUintM,if_pos hc,dgv_cons];have hm:=dgv_mono r (10*acc+(c.toNat-48));by_cases h1:1844674407370955162≤acc
  ·rw[if_pos h1,if_neg (by omega)]
  ·rw[if_neg h1];by_cases h2:18446744073709551615<acc*10+(c.toNat-48)
   ·rw[if_pos h2,if_neg (by omega)]
   ·rw[if_neg h2,Nat.mul_comm acc 10];exact ih _ (by omega) hd.2
theorem dgs_dgv(d:ByteArray):∀(k i n:Nat),d.size-i≤k→dgs d i n=if digsL (d.data.toList.drop i)=true then some (dgv n (d.data.toList.drop i)) else none
 |0,i,n,hk=>by
  rw[dgs_end (by omega),List.drop_eq_nil_of_le (by simp;omega)];rfl
 |k+1,i,n,hk=>by
  by_cases h:i<d.size
  ·have hl:i<d.data.toList.length:=by simpa using h
   have e:d.data.toList.drop i=d[i]::d.data.toList.drop (i+1):=by
    rw[List.drop_eq_getElem_cons hl];rfl
   rw[e];cases hd:digN d[i].toNat with
   |true=>
    rw[dgs_step h hd,dgs_dgv d k (i+1) _ (by omega)];rw[dgv_cons];simp[digsL,hd]
   |false=>
    rw[dgs_bad h hd];simp[digsL,hd]
  ·rw[dgs_end (by omega),List.drop_eq_nil_of_le (by simp;omega)];rfl
def numB(d:ByteArray):Bool:=decide (0<d.size) && !(zeroB d && decide (1<d.size)) && digsL d.data.toList
def mZero:ByteArray:=⟨#[45,48]⟩
theorem zero_size{d:ByteArray}(h:zeroB d=true)(h1:d.size=1):d=⟨#[48]⟩:=by
 unfold zeroB at h;rw[getElem?_pos d 0 (by omega)]at h;simp only[decide_eq_true_eq]at h;apply ByteArray.ext;apply Array.ext
 ·exact h1
 ·intro i hi hi2;have hi0:i=0:=by
   have:i<1:=by simpa using hi2
   omega
  subst hi0;have:d[0]=48:=UInt8.toNat_inj.1 (by rw[h];rfl);exact this
theorem parseIntB_pos{s:ByteArray}(h0:0<s.size)(hd:digsL s.data.toList=true):Lib.parseIntB 64 s.data.toList=if dgv 0 s.data.toList<9223372036854775808 then .ok (dgv 0 s.data.toList:Int) else .range:=by
 have hl:0<s.data.toList.length:=by simpa using h0
 match hs:s.data.toList with
 |[]=>rw[hs]at hl;simp at hl
 |c::r=>
  have hc:digN c.toNat=true:=by
   rw[hs]at hd;simp only[digsL,List.all_cons,Bool.and_eq_true]at hd;exact hd.1
  have hc2:48≤c.toNat∧c.toNat≤57:=by
   simp only[digN,Bool.and_eq_true,decide_eq_true_eq]at hc;exact hc
  unfold Lib.parseIntB;rw[hs]at hd;simp only[Lib.parseUintB];rw[if_neg (show ¬(c.toNat=43∨c.toNat=45) by omega),if_neg (by simp)];have:=parseUintM_dgv (c::r) 0 (by omega) hd;rw[show 2 ^ 64-1=18446744073709551615 by rfl,this];by_cases hb:dgv 0 (c::r)≤18446744073709551615
  ·rw[if_pos hb];simp only;rw[show(2:Nat) ^ (64-1)=9223372036854775808 by rfl];by_cases h3:dgv 0 (c::r)<9223372036854775808
   ·rw[if_neg (by omega),if_neg (by omega),if_pos h3,if_neg (by omega)]
   ·rw[if_pos ⟨by omega,by omega⟩,if_neg h3]
  ·rw[if_neg hb,if_neg (by omega)]
theorem parseIntB_neg{s:ByteArray}{r:List UInt8}(hs:s.data.toList=45::r)(hr:r≠[])(hd:digsL r=true):Lib.parseIntB 64 s.data.toList=if dgv 0 r≤9223372036854775808 then .ok (-(dgv 0 r:Int)) else .range:=by
 rw[hs];unfold Lib.parseIntB;simp only[Lib.parseUintB];have e45:(45:UInt8).toNat=45:=rfl;rw[if_pos (Or.inr e45),if_neg hr];have:=parseUintM_dgv r 0 (by omega) hd;rw[show 2 ^ 64-1=18446744073709551615 by rfl,this];by_cases hb:dgv 0 r≤18446744073709551615
 ·rw[if_pos hb];simp only;rw[show(2:Nat) ^ (64-1)=9223372036854775808 by rfl];by_cases h3:dgv 0 r≤9223372036854775808
  ·rw[if_neg (by simp),if_neg (by omega),if_pos h3,if_pos e45]
  ·rw[if_neg (by simp),if_pos ⟨e45,by omega⟩,if_neg h3]
 ·rw[if_neg hb,if_neg (by omega)]
end Go.Proofs.YtglihimiidiacaaGreatDoor
namespace Go.Proofs.YtglihimiidiacaaGreatDoor
open Go.RowKit Go.Sort
theorem negB_false{s:ByteArray}(h:negB s=false):∀r,s.data.toList≠45::r:=by
 intro r e;have hl:0<s.size:=by
  have:0<s.data.toList.length:=by rw[e];simp
  simpa using this
 unfold negB at h;rw[getElem?_pos s 0 hl]at h;simp only[decide_eq_false_iff_not]at h;apply h;have h2:s.data.toList[0]'(by rw[e];simp)=45:=by simp[e]
 have h3:s[0]=s.data.toList[0]'(by rw[e];simp):=rfl;rw[h3,h2];rfl
theorem negB_true{s:ByteArray}(h:negB s=true):s.data.toList=45::(s.extract 1 s.size).data.toList:=by
 unfold negB at h;by_cases hl:0<s.size
 ·rw[getElem?_pos s 0 hl]at h;simp only[decide_eq_true_eq]at h;have h0:s[0]=45:=UInt8.toNat_inj.1 (by rw[h];rfl);have hl':0<s.data.toList.length:=by simpa using hl
  have e:s.data.toList=s[0]::s.data.toList.drop 1:=by
   have:=List.drop_eq_getElem_cons hl';rw[List.drop_zero]at this;exact this
  rw[h0]at e;rw[ByteArray.data_extract,Array.toList_extract];conv=>lhs;rw[e]
  congr 1
  rw[List.extract_eq_take_drop];rw[List.take_of_length_le];simp
 ·rw[getElem?_neg s 0 hl]at h;simp at h
theorem trim_abs(s:ByteArray):(⟨(Lib.trimPrefix s.data.toList [45]).toArray⟩:ByteArray)=absP s:=by
 unfold Lib.trimPrefix Lib.hasPrefix absP;cases h:negB s with
 |true=>
  have e:=negB_true h;have hp:List.isPrefixOf [45] s.data.toList=true:=by rw[e];simp[List.isPrefixOf]
  rw[if_pos hp,if_pos rfl];have e2:s.data.toList.drop ([45]:List UInt8).length=(s.extract 1 s.size).data.toList:=by rw[e];rfl
  rw[e2]
 |false=>
  have hn:=negB_false h;have hp:List.isPrefixOf [45] s.data.toList=false:=by
   match hs:s.data.toList with
   |[]=>rfl
   |c::r=>
    simp only[List.isPrefixOf,Bool.and_true,beq_eq_false_iff_ne,ne_eq];intro e;exact hn r (by rw[hs,←e])
  rw[if_neg (by simp[hp]),if_neg (by simp)]
theorem negB_one:negB ⟨#[48]⟩=false:=by decide
theorem abs_one:absP ⟨#[48]⟩=⟨#[48]⟩:=by unfold absP;rw[negB_one];rfl
theorem dgs_num(d:ByteArray):dgs d 0 0=if digsL d.data.toList=true then some (dgv 0 d.data.toList) else none:=by
 rw[dgs_dgv d _ 0 0 (Nat.le_refl _),List.drop_zero]
theorem whole_bad{s:ByteArray}(h:numB (absP s)=false∨s=mZero):wholeP s=none:=by
 rcases h with h|rfl
 ·unfold wholeP;by_cases hc:(absP s).size=0∨(zeroB (absP s)=true∧¬s=⟨#[48]⟩)∨19<(absP s).size
  ·rw[if_pos hc]
  ·rw[if_neg hc];have hd:digsL (absP s).data.toList=false:=by
    cases hd:digsL (absP s).data.toList with
    |false=>rfl
    |true=>
     exfalso;have h0:0<(absP s).size:=by omega
     unfold numB at h;rw[hd]at h;simp only[h0,decide_true,Bool.true_and,Bool.and_true,Bool.not_eq_false',Bool.and_eq_true,decide_eq_true_eq]at h;by_cases hs:s=⟨#[48]⟩
     ·rw[hs,abs_one]at h;exact absurd h.2 (by decide)
     ·exact hc (Or.inr (Or.inl ⟨h.1,hs⟩))
   rw[dgs_num,if_neg (by simp[hd])]
 ·unfold wholeP;rw[if_pos];exact Or.inr (Or.inl ⟨by decide,by decide⟩)
theorem pow19:(10:Nat) ^ 19=10000000000000000000:=by decide
theorem dgv_big{d:ByteArray}(hd:digsL d.data.toList=true)(hz:zeroB d=false)(h:19<d.size):10000000000000000000≤dgv 0 d.data.toList:=by
 have hl:19<d.data.toList.length:=by simpa using h
 match hs:d.data.toList with
 |[]=>rw[hs]at hl;simp at hl
 |c::r=>
  have h0:d[0]'(by omega)=c:=by
   have h2:d.data.toList[0]'(by omega)=c:=by simp[hs]
   exact h2
  unfold zeroB at hz;rw[getElem?_pos d 0 (by omega),h0]at hz;simp only[decide_eq_false_iff_not]at hz;have hc:48≤c.toNat∧c.toNat≤57:=by
   rw[hs]at hd;simp only[digsL,List.all_cons,Bool.and_eq_true,digN,decide_eq_true_eq]at hd;exact hd.1
  rw[hs,List.length_cons]at hl;rw[dgv_cons];have h1:=dgv_ge r (10*0+(c.toNat-48));have h2:(10:Nat) ^ 19≤10 ^ r.length:=Nat.pow_le_pow_right (by omega) (by omega);rw[pow19]at h2;have h3:1*10 ^ r.length≤(10*0+(c.toNat-48))*10 ^ r.length:=Nat.mul_le_mul_right _ (by omega);omega
theorem whole_num{s:ByteArray}(h:numB (absP s)=true)(hm:s≠mZero):Lib.parseIntB 64 s.data.toList=match wholeP s with|some v=>.ok v|none=>.range:=by
 unfold numB at h;simp only[Bool.and_eq_true,decide_eq_true_eq,Bool.not_eq_true',Bool.and_eq_false_iff,decide_eq_false_iff_not]at h;obtain⟨⟨h0,hz⟩,hd⟩:=h;have hc2:¬(zeroB (absP s)=true∧¬s=⟨#[48]⟩):=by
  rintro⟨k1,k2⟩;have k3:(absP s).size=1:=by
   rcases hz with hz|hz
   ·rw[hz]at k1;cases k1
   ·omega
  have k4:=zero_size k1 k3;cases hn:negB s with
  |true=>
   apply hm;have e:=negB_true hn;have ea:absP s=s.extract 1 s.size:=by unfold absP;rw[if_pos hn]
   rw[←ea,k4]at e;apply ByteArray.ext;apply Array.toList_inj.1;rw[e];rfl
  |false=>
   have ea:absP s=s:=by unfold absP;rw[if_neg (by simp[hn])]
   exact k2 (by rw[←ea,k4])
 cases hn:negB s with
 |true=>
  have e:=negB_true hn;have ea:absP s=s.extract 1 s.size:=by unfold absP;rw[if_pos hn]
  rw[←ea]at e;have hr:(absP s).data.toList≠[]:=by
   intro e2;have:(absP s).data.toList.length=0:=by rw[e2];rfl
   have h3:(absP s).data.toList.length=(absP s).size:=by simp
   omega
  rw[parseIntB_neg e hr hd];unfold wholeP;by_cases h19:19<(absP s).size
  ·rw[if_pos (Or.inr (Or.inr h19))];have hz':zeroB (absP s)=false:=by rcases hz with hz|hz;exact hz;omega
   have:=dgv_big hd hz' h19;rw[if_neg (by omega)]
  ·have hcond:¬((absP s).size=0∨(zeroB (absP s)=true∧¬s=⟨#[48]⟩)∨19<(absP s).size):=fun k=>by
    rcases k with k|k|k
    ·omega
    ·exact hc2 k
    ·omega
   rw[if_neg hcond,dgs_num,if_pos hd];simp only[hn,if_true];by_cases hb:dgv 0 (absP s).data.toList≤9223372036854775808
   ·rw[if_pos hb,if_pos hb]
   ·rw[if_neg hb,if_neg hb]
 |false=>
  have ea:absP s=s:=by unfold absP;rw[if_neg (by simp[hn])]
  rw[ea]at h0 hd hz hc2;rw[parseIntB_pos h0 hd];unfold wholeP;rw[ea];by_cases h19:19<s.size
  ·rw[if_pos (Or.inr (Or.inr h19))];have hz':zeroB s=false:=by rcases hz with hz|hz;exact hz;omega
   have:=dgv_big hd hz' h19;rw[if_neg (by omega)]
  ·have hcond:¬(s.size=0∨(zeroB s=true∧¬s=⟨#[48]⟩)∨19<s.size):=fun k=>by
    rcases k with k|k|k
    ·omega
    ·exact hc2 k
    ·omega
   rw[if_neg hcond,dgs_num,if_pos hd];simp only[hn];by_cases hb:dgv 0 s.data.toList<9223372036854775808
   ·rw[if_pos hb];simp[hb]
   ·rw[if_neg hb];simp[hb]
end Go.Proofs.YtglihimiidiacaaGreatDoor
namespace Go.Proofs.YtglihimiidiacaaGreatDoor
open Go.Shelf
def Tryz.lays144_ren:Go.Shelf.Ren:=⟨fun|144=>85|143=>136|219=>195|217=>237|225=>238|224=>239|267=>240|266=>262|314=>263|n=>n,fun|9=>9|4=>4|3=>3|5=>5|46=>110|146=>409|51=>107|n=>n,fun|1=>23|n=>n⟩
theorem Tryz.lays144:Go.Proofs.Lays.n144 Tryz.prog Tryz.lays144_ren:={
 mixed:=by kernel_rfl
 f143:=Tryz.func136.trans (congrArg some (by kernel_rfl))
 f144:=Tryz.func85.trans (congrArg some (by kernel_rfl))
 f217:=Tryz.func237.trans (congrArg some (by kernel_rfl))
 f219:=Tryz.func195.trans (congrArg some (by kernel_rfl))
 f224:=Tryz.func239.trans (congrArg some (by kernel_rfl))
 f225:=Tryz.func238.trans (congrArg some (by kernel_rfl))
 f266:=Tryz.func262.trans (congrArg some (by kernel_rfl))
 f267:=Tryz.func240.trans (congrArg some (by kernel_rfl))
 f314:=Tryz.func263.trans (congrArg some (by kernel_rfl))
 t3:=Tryz.underlying3
 a3:=Tryz.isAgg3
 z3:=Tryz.sizeOf3
 v3:=Tryz.zeroValue3
 t4:=Tryz.underlying4
 a4:=Tryz.isAgg4
 z4:=Tryz.sizeOf4
 v4:=Tryz.zeroValue4
 t5:=Tryz.underlying5
 a5:=Tryz.isAgg5
 z5:=Tryz.sizeOf5
 v5:=Tryz.zeroValue5
 t9:=Tryz.underlying9
 a9:=Tryz.isAgg9
 z9:=Tryz.sizeOf9
 v9:=Tryz.zeroValue9
 t46:=Tryz.underlying110
 a46:=Tryz.isAgg110
 z46:=Tryz.sizeOf110
 v46:=Tryz.zeroValue110
 t51:=Tryz.underlying107
 a51:=Tryz.isAgg107
 z51:=Tryz.sizeOf107
 v51:=Tryz.zeroValue107
 t146:=Tryz.underlying409
 a146:=Tryz.isAgg409
 z146:=Tryz.sizeOf409
 v146:=Tryz.zeroValue409
 g1:=by kernel_rfl}
def Tryz.lays101_ren:Go.Shelf.Ren:=⟨fun|101=>254|208=>274|206=>286|n=>n,fun|9=>9|4=>4|3=>3|n=>n,fun|n=>n⟩
theorem Tryz.lays101:Go.Proofs.Lays.n101 Tryz.prog Tryz.lays101_ren:={
 mixed:=by kernel_rfl
 f101:=Tryz.func254.trans (congrArg some (by kernel_rfl))
 f206:=Tryz.func286.trans (congrArg some (by kernel_rfl))
 f208:=Tryz.func274.trans (congrArg some (by kernel_rfl))
 t3:=Tryz.underlying3
 a3:=Tryz.isAgg3
 z3:=Tryz.sizeOf3
 v3:=Tryz.zeroValue3
 t4:=Tryz.underlying4
 a4:=Tryz.isAgg4
 z4:=Tryz.sizeOf4
 v4:=Tryz.zeroValue4
 t9:=Tryz.underlying9
 a9:=Tryz.isAgg9
 z9:=Tryz.sizeOf9
 v9:=Tryz.zeroValue9}
def Tryz.laysC174_ren:Go.Shelf.Ren:=⟨fun|174=>255|247=>275|245=>276|287=>287|279=>288|280=>289|281=>290|282=>291|321=>295|322=>296|316=>82|171=>5|205=>297|243=>8|246=>11|283=>18|284=>19|285=>20|286=>21|129=>34|317=>33|318=>35|319=>36|320=>37|337=>64|338=>65|n=>n,fun|9=>9|3=>3|2=>2|75=>70|85=>394|4=>4|167=>431|5=>5|53=>59|175=>291|46=>110|168=>433|37=>62|0=>0|210=>440|21=>21|127=>270|145=>445|143=>443|171=>58|173=>63|212=>106|51=>107|20=>20|213=>108|232=>246|233=>247|80=>446|n=>n,fun|15=>25|16=>26|17=>0|18=>21|19=>22|n=>n⟩
theorem Tryz.laysC174:Go.Proofs.LaysC.n174 Tryz.prog Tryz.laysC174_ren:={
 mixed:=by kernel_rfl
 f129:=Tryz.func34.trans (congrArg some (by kernel_rfl))
 f171:=Tryz.func5.trans (congrArg some (by kernel_rfl))
 f174:=Tryz.func255.trans (congrArg some (by kernel_rfl))
 f205:=Tryz.func297.trans (congrArg some (by kernel_rfl))
 f243:=Tryz.func8.trans (congrArg some (by kernel_rfl))
 f245:=Tryz.func276.trans (congrArg some (by kernel_rfl))
 f246:=Tryz.func11.trans (congrArg some (by kernel_rfl))
 f247:=Tryz.func275.trans (congrArg some (by kernel_rfl))
 f279:=Tryz.func288.trans (congrArg some (by kernel_rfl))
 f280:=Tryz.func289.trans (congrArg some (by kernel_rfl))
 f281:=Tryz.func290.trans (congrArg some (by kernel_rfl))
 f282:=Tryz.func291.trans (congrArg some (by kernel_rfl))
 f283:=Tryz.func18.trans (congrArg some (by kernel_rfl))
 f284:=Tryz.func19.trans (congrArg some (by kernel_rfl))
 f285:=Tryz.func20.trans (congrArg some (by kernel_rfl))
 f286:=Tryz.func21.trans (congrArg some (by kernel_rfl))
 f287:=Tryz.func287.trans (congrArg some (by kernel_rfl))
 f316:=Tryz.func82.trans (congrArg some (by kernel_rfl))
 f317:=Tryz.func33.trans (congrArg some (by kernel_rfl))
 f318:=Tryz.func35.trans (congrArg some (by kernel_rfl))
 f319:=Tryz.func36.trans (congrArg some (by kernel_rfl))
 f320:=Tryz.func37.trans (congrArg some (by kernel_rfl))
 f321:=Tryz.func295.trans (congrArg some (by kernel_rfl))
 f322:=Tryz.func296.trans (congrArg some (by kernel_rfl))
 f337:=Tryz.func64.trans (congrArg some (by kernel_rfl))
 f338:=Tryz.func65.trans (congrArg some (by kernel_rfl))
 t0:=Tryz.underlying0
 a0:=Tryz.isAgg0
 z0:=Tryz.sizeOf0
 v0:=Tryz.zeroValue0
 t2:=Tryz.underlying2
 a2:=Tryz.isAgg2
 z2:=Tryz.sizeOf2
 v2:=Tryz.zeroValue2
 t3:=Tryz.underlying3
 a3:=Tryz.isAgg3
 z3:=Tryz.sizeOf3
 v3:=Tryz.zeroValue3
 t4:=Tryz.underlying4
 a4:=Tryz.isAgg4
 z4:=Tryz.sizeOf4
 v4:=Tryz.zeroValue4
 t5:=Tryz.underlying5
 a5:=Tryz.isAgg5
 z5:=Tryz.sizeOf5
 v5:=Tryz.zeroValue5
 t9:=Tryz.underlying9
 a9:=Tryz.isAgg9
 z9:=Tryz.sizeOf9
 v9:=Tryz.zeroValue9
 t20:=Tryz.underlying20
 a20:=Tryz.isAgg20
 z20:=Tryz.sizeOf20
 v20:=Tryz.zeroValue20
 t21:=Tryz.underlying21
 a21:=Tryz.isAgg21
 z21:=Tryz.sizeOf21
 v21:=Tryz.zeroValue21
 t37:=Tryz.underlying62
 a37:=Tryz.isAgg62
 z37:=Tryz.sizeOf62
 v37:=Tryz.zeroValue62
 t46:=Tryz.underlying110
 a46:=Tryz.isAgg110
 z46:=Tryz.sizeOf110
 v46:=Tryz.zeroValue110
 t51:=Tryz.underlying107
 a51:=Tryz.isAgg107
 z51:=Tryz.sizeOf107
 v51:=Tryz.zeroValue107
 t53:=Tryz.underlying59
 a53:=Tryz.isAgg59
 z53:=Tryz.sizeOf59
 v53:=Tryz.zeroValue59
 t75:=Tryz.underlying70
 a75:=Tryz.isAgg70
 z75:=Tryz.sizeOf70
 v75:=Tryz.zeroValue70
 t85:=Tryz.underlying394
 a85:=Tryz.isAgg394
 z85:=Tryz.sizeOf394
 v85:=Tryz.zeroValue394
 t127:=Tryz.underlying270
 a127:=Tryz.isAgg270
 z127:=Tryz.sizeOf270
 v127:=Tryz.zeroValue270
 t143:=Tryz.underlying443
 a143:=Tryz.isAgg443
 z143:=Tryz.sizeOf443
 v143:=Tryz.zeroValue443
 t145:=Tryz.underlying445
 a145:=Tryz.isAgg445
 z145:=Tryz.sizeOf445
 v145:=Tryz.zeroValue445
 t167:=Tryz.underlying431
 a167:=Tryz.isAgg431
 z167:=Tryz.sizeOf431
 v167:=Tryz.zeroValue431
 t168:=Tryz.underlying433
 a168:=Tryz.isAgg433
 z168:=Tryz.sizeOf433
 v168:=Tryz.zeroValue433
 t171:=Tryz.underlying58
 a171:=Tryz.isAgg58
 z171:=Tryz.sizeOf58
 v171:=Tryz.zeroValue58
 t173:=Tryz.underlying63
 a173:=Tryz.isAgg63
 z173:=Tryz.sizeOf63
 v173:=Tryz.zeroValue63
 t175:=Tryz.underlying291
 a175:=Tryz.isAgg291
 z175:=Tryz.sizeOf291
 v175:=Tryz.zeroValue291
 t210:=Tryz.underlying440
 a210:=Tryz.isAgg440
 z210:=Tryz.sizeOf440
 v210:=Tryz.zeroValue440
 t212:=Tryz.underlying106
 a212:=Tryz.isAgg106
 z212:=Tryz.sizeOf106
 v212:=Tryz.zeroValue106
 t213:=Tryz.underlying108
 a213:=Tryz.isAgg108
 z213:=Tryz.sizeOf108
 t232:=Tryz.underlying246
 a232:=Tryz.isAgg246
 z232:=Tryz.sizeOf246
 v232:=Tryz.zeroValue246
 t233:=Tryz.underlying247
 a233:=Tryz.isAgg247
 z233:=Tryz.sizeOf247
 v233:=Tryz.zeroValue247
 g15:=by kernel_rfl
 g16:=by kernel_rfl
 g17:=by kernel_rfl
 g18:=by kernel_rfl
 g19:=by kernel_rfl
 t80:=Tryz.underlying446
 a80:=Tryz.isAgg446
 z80:=Tryz.sizeOf446
 v80:=Tryz.zeroValue446
 i0:=by kernel_rfl
 i2:=by kernel_rfl
 i3:=by kernel_rfl
 i4:=by kernel_rfl
 i5:=by kernel_rfl
 i9:=by kernel_rfl
 i20:=by kernel_rfl
 i21:=by kernel_rfl
 i37:=by kernel_rfl
 i46:=by kernel_rfl
 i51:=by kernel_rfl
 i53:=by kernel_rfl
 i75:=by kernel_rfl
 i80:=by kernel_rfl
 i85:=by kernel_rfl
 i127:=by kernel_rfl
 i143:=by kernel_rfl
 i145:=by kernel_rfl
 i167:=by kernel_rfl
 i168:=by kernel_rfl
 i171:=by kernel_rfl
 i173:=by kernel_rfl
 i175:=by kernel_rfl
 i210:=by kernel_rfl
 i212:=by kernel_rfl
 i232:=by kernel_rfl
 i233:=by kernel_rfl
 m15:=by kernel_rfl
 m16:=by kernel_rfl
 m17:=by kernel_rfl
 m18:=by kernel_rfl
 m19:=by kernel_rfl
 c0:=by kernel_rfl
 c2:=by kernel_rfl
 c3:=by kernel_rfl
 c4:=by kernel_rfl
 c5:=by kernel_rfl
 c9:=by kernel_rfl
 c20:=by kernel_rfl
 c21:=by kernel_rfl
 c37:=by kernel_rfl
 c46:=by kernel_rfl
 c51:=by kernel_rfl
 c53:=by kernel_rfl
 c75:=by kernel_rfl
 c80:=by kernel_rfl
 c85:=by kernel_rfl
 c127:=by kernel_rfl
 c143:=by kernel_rfl
 c145:=by kernel_rfl
 c167:=by kernel_rfl
 c168:=by kernel_rfl
 c171:=by kernel_rfl
 c173:=by kernel_rfl
 c175:=by kernel_rfl
 c210:=by kernel_rfl
 c212:=by kernel_rfl
 c213:=by kernel_rfl
 c232:=by kernel_rfl
 c233:=by kernel_rfl}
def Tryz.laysCF_ren:Go.Shelf.Ren:=⟨fun|8=>173|6=>223|n=>n,fun|22=>116|23=>131|25=>320|4=>4|3=>3|0=>0|n=>n,fun|n=>n⟩
theorem Tryz.laysCF:Go.Proofs.SlLaysH0.n8 Tryz.prog Tryz.laysCF_ren:={
 mixed:=by kernel_rfl
 f6:=⟨Tryz.f223.name,by decide,Tryz.func223.trans (congrArg some (by kernel_rfl))⟩
 f8:=⟨Tryz.f173.name,by decide,Tryz.func173.trans (congrArg some (by kernel_rfl))⟩
 t0:=Tryz.underlying0
 a0:=Tryz.isAgg0
 z0:=Tryz.sizeOf0
 v0:=Tryz.zeroValue0
 t3:=Tryz.underlying3
 a3:=Tryz.isAgg3
 z3:=Tryz.sizeOf3
 v3:=Tryz.zeroValue3
 t4:=Tryz.underlying4
 a4:=Tryz.isAgg4
 z4:=Tryz.sizeOf4
 v4:=Tryz.zeroValue4
 t22:=Tryz.underlying116
 a22:=Tryz.isAgg116
 z22:=Tryz.sizeOf116
 v22:=Tryz.zeroValue116
 t25:=Tryz.underlying320
 a25:=Tryz.isAgg320
 z25:=Tryz.sizeOf320
 v25:=Tryz.zeroValue320}
end Go.Proofs.YtglihimiidiacaaGreatDoor
namespace Go.Proofs.YtglihimiidiacaaGreatDoor
open Go.RowKit Go.Sort
theorem ret_b{a b:Bool}(h:a=b):Ending.returned (.bool a)=.returned (.bool b):=by rw[h]
theorem numB_false_zero{d:ByteArray}(h:zeroB d=true)(h1:1<d.size):numB d=false:=by unfold numB;simp[h,h1]
def digsF(d:ByteArray)(k:Nat):Bool:=digsL (d.data.toList.drop k)
theorem digsF_step{d:ByteArray}{k:Nat}(h:k<d.size):digsF d k=(digN d[k].toNat && digsF d (k+1)):=by
 unfold digsF digsL;have hl:k<d.data.toList.length:=by simpa using h
 rw[List.drop_eq_getElem_cons hl,List.all_cons];rfl
theorem digsF_end(d:ByteArray):digsF d d.size=true:=by
 unfold digsF;rw[List.drop_eq_nil_of_le (by simp)];rfl
set_option maxRecDepth 100000 in
set_option maxHeartbeats 4000000 in
theorem isDigits_any(d:ByteArray)(w:World)(hs:d.size≤2000):Calls Tryz.prog 253 #[.string d] w fun e w'=>e=.returned (.bool (numB d))∧w'=w:=by
 by_cases h0:d.size=0
 ·obtain rfl:d=⟨#[]⟩:=ByteArray.ext (Array.eq_empty_of_size_eq_zero h0);go_enter Tryz.func253,Tryz.ntmps253;go_wp2;all_goals
   go_ret;exact⟨ret_b (by decide),rfl⟩
 ·have hl:0<d.size:=by omega
  have b0:(d.toList==([]:List UInt8))=false:=by
   rw[beq_eq_false_iff_ne];intro e;have h1:d.toList.length=d.size:=by rw[ByteArray.toList_eq];simp
   rw[e]at h1;simp at h1;omega
  have hz:zeroB d=decide (d[0].toNat=48):=by unfold zeroB;rw[getElem?_pos d 0 hl]
  have i0:(0:Int)<(d.size:Int):=by omega
  by_cases hA:zeroB d=true∧1<d.size
  ·have HN:=hid (numB_false_zero hA.1 hA.2);have e1:((d[0].toNat:Int)==48)=true:=by
    rw[hz]at hA;rw[beq_iff_eq];have:=of_decide_eq_true hA.1;omega
   have i1:(1:Int)<(d.size:Int):=by omega
   clear hz hA;go_enter Tryz.func253,Tryz.ntmps253;go_wp2;all_goals
    go_ret;exact⟨ret_b HN.out.symm,rfl⟩
  ·have HN:Hid (numB d=digsF d 0):=by
    show _=_;unfold numB digsF;rw[List.drop_zero];have:(zeroB d && decide (1<d.size))=false:=by
     rw[Bool.and_eq_false_iff];by_cases hz1:zeroB d=true
     ·exact Or.inr (decide_eq_false fun h=>hA ⟨hz1,h⟩)
     ·exact Or.inl (by simpa using hz1)
    rw[this];simp[hl]
   have hB:¬d[0].toNat=48∨d.size=1:=by
    by_cases h48:d[0].toNat=48
    ·refine Or.inr ?_;have:¬1<d.size:=fun h=>hA ⟨by rw[hz];simp[h48],h⟩;omega
    ·exact Or.inl h48
   clear hz hA;have e1:((d[0].toNat:Int)==48)=false∨((d[0].toNat:Int)==48)=true∧d.size=1:=by
    by_cases h48:d[0].toNat=48
    ·exact Or.inr ⟨by rw[beq_iff_eq];omega,by rcases hB with h|h;exact absurd h48 h;exact h⟩
    ·exact Or.inl (by rw[beq_eq_false_iff_ne];omega)
   clear hB;rcases e1 with e1|⟨e1,hs1⟩;all_goals
    go_enter Tryz.func253,Tryz.ntmps253;go_wp2;go_loop [18] (fun i=>∃k:Nat,k≤d.size∧i=.int .i64 k∧Hid (digsF d 0=digsF d k)) (fun i=>d.size-(intOf i).toNat)
    case atStart=>exact⟨0,Nat.zero_le _,rfl,rfl⟩
    case round=>
     obtain⟨k,hk,rfl,HA⟩:=hrel;by_cases hlt:k<d.size
     ·have h1:(0:Int)≤(k:Int):=by omega
      have h2:(k:Int)<(d.size:Int):=by omega
      have HS:=hid (digsF_step hlt);cases hd:digN d[k].toNat with
      |true=>
       have hd2:48≤d[k].toNat∧d[k].toNat≤57:=by simp only[digN,Bool.and_eq_true,decide_eq_true_eq]at hd;exact hd
       have j1:¬(d[k].toNat:Int)<48:=by omega
       have j2:¬(57:Int)<(d[k].toNat:Int):=by omega
       have HD:=hid hd;clear hd;go_wp2;exact⟨⟨k+1,by omega,by go_num,by show _=_;rw[HA.out,HS.out,HD.out];rfl⟩,by simp[intOf];omega⟩
      |false=>
       have hd2:d[k].toNat<48∨57<d[k].toNat:=by
        simp only[digN,Bool.and_eq_false_iff,decide_eq_false_iff_not]at hd;omega
       have HD:=hid hd;clear hd;by_cases j1:(d[k].toNat:Int)<48
       ·go_wp2;all_goals
         go_ret;exact⟨ret_b (by rw[HN.out,HA.out,HS.out,HD.out];rfl),rfl⟩
       ·have j2:(57:Int)<(d[k].toNat:Int):=by omega
        go_wp2;all_goals
         go_ret;exact⟨ret_b (by rw[HN.out,HA.out,HS.out,HD.out];rfl),rfl⟩
     ·obtain rfl:k=d.size:=by omega
      have hge:¬(d.size:Int)<(d.size:Int):=by omega
      go_wp2;go_ret;exact⟨ret_b (by rw[HN.out,HA.out,digsF_end]),rfl⟩
end Go.Proofs.YtglihimiidiacaaGreatDoor
namespace Go.Proofs.YtglihimiidiacaaGreatDoor
open Go.RowKit Go.Sort
def WNum(r:Option Int)(w:World)(e:Ending)(w':World):Prop:=Below w.heap.size w w'∧∃n:Int,e=.returned (.tuple #[.int .i64 n,.bool r.isSome])∧∀v,r=some v→n=v
theorem WNum.none{w w':World}{n:Int}{b:Bool}(hb:Below w.heap.size w w')(h:b=false):WNum none w (.returned (.tuple #[.int .i64 n,.bool b])) w':=⟨hb,n,by rw[h];rfl,fun v e=>by cases e⟩
theorem WNum.some{w w':World}{n:Int}{b:Bool}(hb:Below w.heap.size w w')(h:b=true):WNum (some n) w (.returned (.tuple #[.int .i64 n,.bool b])) w':=⟨hb,n,by rw[h];rfl,fun v e=>by cases e;rfl⟩
theorem below_bytes{w w':World}{t:TypeId}(h:w'=w∨∃x,w'=Lib.bytesWorld w t x):Below w.heap.size w w':=by
 rcases h with rfl|⟨x,rfl⟩
 ·exact Below.refl _ _
 ·exact Joins.below_bytesWorld _ w t x (Nat.le_refl _)
set_option maxRecDepth 100000 in
set_option maxHeartbeats 4000000 in
theorem pnumber_any{w:World}{adr:Nat→Addr}(s:ByteArray)(hs:s.size≤2000)(hS:SY w adr):Calls Tryz.prog 226 #[.string s] w fun e w'=>WNum (wholeP s) w e w':=by
 have HT:Hid (∀w,Calls Tryz.prog 254 #[.string s,.string ⟨#[45]⟩] w fun e w'=>e=.returned (.string (absP s))∧w'=w):=by
  intro w;have h:=Any.strings_TrimPrefix Tryz.lays101 s ⟨#[45]⟩ w;rw[trim_abs]at h;exact h
 have ha:(absP s).size≤2000:=by
  unfold absP;split
  ·rw[ByteArray.size_extract];omega
  ·exact hs
 have HD:=hid (fun w=>isDigits_any (absP s) w ha);have hz:mZero.toList=[45,48]:=by rw[ByteArray.toList_eq];rfl
 by_cases hb:numB (absP s)=false∨s=mZero
 ·have HW:=hid (whole_bad hb);have hb2:numB (absP s)=false∨(s.toList==[45,48])=true:=by
   rcases hb with h|h
   ·exact Or.inl h
   ·exact Or.inr (by rw[h,hz];rfl)
  clear hb hS;rw[HW.out];generalize numB (absP s)=nb at*;rcases hb2 with h|h;all_goals
   go_enter Tryz.func226,Tryz.ntmps226;go_wp2_with (first
    |(go_at_call 254;refine(HT.out _).mono ?_;rintro e w' ⟨rfl,rfl⟩)
    |(go_at_call 253;refine(HD.out _).mono ?_;rintro e w' ⟨rfl,rfl⟩))
   all_goals
    go_ret2
    exact WNum.none (Below.refl _ _) rfl
 ·have hn:numB (absP s)=true:=by cases h:numB (absP s) with|true=>rfl|false=>exact absurd (Or.inl h) hb
  have hm:s≠mZero:=fun h=>hb (Or.inr h);have hp:=whole_num hn hm;have e45:(s.toList==[45,48])=false:=by
   rw[beq_eq_false_iff_ne];intro e;exact hm (toL_inj (by rw[e,hz]))
  rw[hn]at HD;clear hb hn hm;cases hw:wholeP s with
  |some v=>
   rw[hw]at hp;have HP:=hid (fun w=>Any.strconv_ParseInt_10_at64_ok Tryz.laysC174 s (by omega) v hp w);clear hp hw hS;go_enter Tryz.func226,Tryz.ntmps226;go_wp2_with (first
    |(go_at_call 254;refine(HT.out _).mono ?_;rintro e w' ⟨rfl,rfl⟩)
    |(go_at_call 253;refine(HD.out _).mono ?_;rintro e w' ⟨rfl,rfl⟩)
    |(go_at_call 255;refine(HP.out _).mono ?_;rintro e w1 ⟨rfl,hb1⟩;have HB1:=hid (below_bytes hb1);clear hb1))
   go_quiet (fail);go_wp2;have hbq:=below_drewN (Below.refl w1.heap.size w1) nq;go_ret2
   exact WNum.some (HB1.out.trans (hbq.mono HB1.out.size)) rfl
  |none=>
   rw[hw]at hp;obtain⟨ev,hv,hev⟩:=hS.er;have HP:=hid (fun w hv=>Any.strconv_ParseInt_10_at64_range Tryz.laysC174 s (by omega) hp ev w hv hev);clear hp hw hS hev;go_enter Tryz.func226,Tryz.ntmps226;go_wp2_with (first
    |(go_at_call 254;refine(HT.out _).mono ?_;rintro e w' ⟨rfl,rfl⟩)
    |(go_at_call 253;refine(HD.out _).mono ?_;rintro e w' ⟨rfl,rfl⟩)
    |(go_at_call 255;refine(HP.out _ hv).mono ?_;rintro e w1 ⟨N,rfl,-,-,hb1⟩;have HB1:=hid hb1;clear hb1))
   go_quiet (fail);go_wp2;have hbq:=below_drewN (Below.refl w1.heap.size w1) nq;go_ret2
   exact WNum.none (HB1.out.trans (hbq.mono HB1.out.size)) rfl
end Go.Proofs.YtglihimiidiacaaGreatDoor
namespace Go.Proofs.YtglihimiidiacaaGreatDoor
open Go.RowKit Go.Sort
section
variable {w w':World} {B:Nat} {kd n:Int} {nm:ByteArray} {pl:Int} {bv bav pv av:Value}
end
section
variable {α β:Type} {E E':Nat→Nat→α→β→Prop}
end
def xBd:Ex→Nms
 |.lets _ ns _ _=>ns
 |_=>[]
def xPs:Ex→List Ex
 |.call ps=>ps
 |.lets _ _ es b=>es++[b]
 |.con _ fs=>fs
 |.case e _=>[e]
 |.op _ l r=>[l,r]
 |_=>[]
def xAl:Ex→List (Nat×Nms×Ex)
 |.case _ brs=>brs
 |_=>[]
end Go.Proofs.YtglihimiidiacaaGreatDoor
namespace Go.Proofs.YtglihimiidiacaaGreatDoor
open Go.RowKit Go.Sort
def left(s:ByteArray)(T:Nat)(w:World):Nat:=match w.cell? ⟨T,3,none⟩,w.cell? ⟨T,1,none⟩ with|some (.int _ e),some (.int _ q)=>if e=0 then s.size+1-q.toNat else 0|_,_=>0
end Go.Proofs.YtglihimiidiacaaGreatDoor
namespace Go.Proofs.YtglihimiidiacaaGreatDoor
open Go.RowKit Go.Sort
theorem EF.alloc{T:Nat}{w w':World}(h:EF T w w')(o:Obj):EF T w (w'.alloc o):=h.trans ⟨rfl,rfl,rfl,by simp,fun k hk _=>heap_alloc_old w' o hk⟩
def fl{α:Type}(c a:Nat)(r:Pr α):Pr α:=match r with|.ok _=>.error (c,a)|.error e=>.error e
end Go.Proofs.YtglihimiidiacaaGreatDoor
namespace Go.Proofs.YtglihimiidiacaaGreatDoor
open Go.RowKit Go.Sort
end Go.Proofs.YtglihimiidiacaaGreatDoor
namespace Go.Proofs.YtglihimiidiacaaGreatDoor
open Go.RowKit Go.Sort
theorem RowS.ef{α:Type}{cells:α→List Value}{sub:α→List Nat}{ok:World→α→Prop}{e:TypeId}{size:Nat}(hok:OkFr sub ok){w w':World}{lo P:Nat}{v:Value}{xs:List α}(h:RowS cells sub ok e size w lo v xs)(hE:EF P w w')(hP:P<lo):RowS cells sub ok e size w' lo v xs:=
 h.fr hok hE.size fun b hb=>hE.block b (h.rg b hb).2 (by have:=(h.rg b hb).1;omega)
end Go.Proofs.YtglihimiidiacaaGreatDoor
namespace Go.Proofs.YtglihimiidiacaaGreatDoor
open Go.RowKit Go.Sort
abbrev PT:=Value×Ex×List Nat
section
variable (ok:World→PT→Prop)
end
end Go.Proofs.YtglihimiidiacaaGreatDoor
namespace Go.Proofs.YtglihimiidiacaaGreatDoor
open Go.RowKit Go.Sort
abbrev IT:=(ByteArray×Nat)×Nat
abbrev DT:=(ByteArray×Nat)×Value×Nms×PT
section
variable {P W:Nat} {s:ByteArray} {w0 wr:World} {M:Nat} {nm:Value} {G:Nms} {ims:List IT} {dfs:List DT} {q:Nat} {gv iv dv:Value}
end
end Go.Proofs.YtglihimiidiacaaGreatDoor
namespace Go.Proofs.YtglihimiidiacaaGreatDoor
open Go.RowKit Go.Sort
abbrev LkT:=Option (Nat×Nat)
section
variable {w w':World} {K:Nat} {gv:Value} {adr:Nat→Addr} {st:LkT}
end
end Go.Proofs.YtglihimiidiacaaGreatDoor
namespace Go.Proofs.YtglihimiidiacaaGreatDoor
open Go.RowKit Go.Sort
def XBnd:Nat→Ex→Prop
 |0,_=>True
 |d+1,e=>(xBd e).length≤2000∧(∀x∈xPs e,XBnd d x)∧∀b∈xAl e,b.2.1.length≤2000∧XBnd d b.2.2
section
variable {s:ByteArray} {d:Nat} {E:Nat→Pr Ex} (hs:s.size≤2000) (hE:Fwd s E 1) (hB:∀p e q,p≤s.size→E p=.ok (e,q)→XBnd d e)
include hE hB
end
section
variable {s:ByteArray} {d:Nat} {E:Nat→Pr Ex} (hs:s.size≤2000) (hE:Fwd s E 1) (hB:∀p e q,p≤s.size→E p=.ok (e,q)→XBnd d e)
include hs hE hB
end
end Go.Proofs.YtglihimiidiacaaGreatDoor
namespace Go.Proofs.YtglihimiidiacaaGreatDoor
open Go.RowKit Go.Sort
def xB:Ex→List Nat
 |.name true _ pl=>[pl]
 |_=>[]
def xU:Ex→List Nat
 |.name _ _ pl=>[pl]
 |_=>[]
def fB:Nat→Ex→List Nat
 |0,_=>[]
 |d+1,e=>xB e++((xBd e).map (·.2)++((xPs e).flatMap (fB d)++(xAl e).flatMap fun b=>b.2.1.map (·.2)++fB d b.2.2))
def fU:Nat→Ex→List Nat
 |0,_=>[]
 |d+1,e=>xU e++((xPs e).flatMap (fU d)++(xAl e).flatMap fun b=>fU d b.2.2)
structure Ap (B U:List Nat) (p q:Nat):Prop where
 b:∀x∈B,p≤x∧x<q
 u:∀x∈U,p≤x∧x<q
 n:∀x∈B,x∉U
theorem Ap.nil(p q:Nat):Ap [] [] p q:=⟨fun x h=>(by cases h),fun x h=>(by cases h),fun x h=>(by cases h)⟩
theorem Ap.app{B U B' U':List Nat}{p q r:Nat}(h:Ap B U p q)(h':Ap B' U' q r)(hp:p≤q)(hq:q≤r):Ap (B++B') (U++U') p r:=by
 refine⟨fun x hx=>?_,fun x hx=>?_,fun x hx hu=>?_⟩
 ·rcases List.mem_append.1 hx with k|k
  ·have:=h.b x k;omega
  ·have:=h'.b x k;omega
 ·rcases List.mem_append.1 hx with k|k
  ·have:=h.u x k;omega
  ·have:=h'.u x k;omega
 ·rcases List.mem_append.1 hx with k|k<;>rcases List.mem_append.1 hu with l|l
  ·exact h.n x k l
  ·have:=h.b x k;have:=h'.u x l;omega
  ·have:=h'.b x k;have:=h.u x l;omega
  ·exact h'.n x k l
theorem Ap.sub{B U B' U':List Nat}{p q p' q':Nat}(h:Ap B U p q)(hb:∀x∈B',x∈B)(hu:∀x∈U',x∈U)(hp:p'≤p)(hq:q≤q'):Ap B' U' p' q':=
 ⟨fun x hx=>by have:=h.b x (hb x hx);omega,fun x hx=>by have:=h.u x (hu x hx);omega,fun x hx hu'=>h.n x (hb x hx) (hu x hu')⟩
section
variable {s:ByteArray} {d:Nat} {E:Nat→Pr Ex} (hE:Fwd s E 1) (hA:∀p e q,p≤s.size→E p=.ok (e,q)→Ap (fB d e) (fU d e) p q)
include hE hA
end
end Go.Proofs.YtglihimiidiacaaGreatDoor
namespace Go.Proofs.YtglihimiidiacaaGreatDoor
open Go.RowKit Go.Sort
theorem dgv_app(n:Nat)(l m:List UInt8):dgv n (l++m)=dgv (dgv n l) m:=by unfold dgv;rw[List.foldl_append]
theorem dig_of(k:Nat)(h:k<10):(UInt8.ofNat (48+k)).toNat=48+k:=by rw[UInt8.toNat_ofNat'];omega
theorem dec_ok(u:Nat):digsL (Lib.decDigits u)=true∧dgv 0 (Lib.decDigits u)=u∧(10≤u→∀c,(Lib.decDigits u)[0]?=some c→c.toNat≠48):=by
 induction u using Nat.strongRecOn with
 |_ u ih=>
  by_cases h:u<10
  ·rw[Lib.decDigits_one h];refine⟨by simp[digsL,digN];omega,by rw[dgv_cons,dgv_nil,dig_of u h];omega,fun h2=>absurd h2 (by omega)⟩
  ·rw[Lib.decDigits,dif_neg h];obtain⟨h1,h2,h3⟩:=ih (u / 10) (by omega);have hl:0<(Lib.decDigits (u / 10)).length:=by rw[Lib.decDigits_length];have:=Lib.nDigits_pos (u / 10);omega
   refine⟨?_,?_,fun _ c hc=>?_⟩
   ·unfold digsL at h1 ⊢;rw[List.all_append,h1];simp[digN];omega
   ·rw[dgv_app,h2,dgv_cons,dgv_nil,dig_of _ (by omega)];omega
   ·rw[List.getElem?_append_left hl]at hc;by_cases h4:u / 10<10
    ·rw[Lib.decDigits_one h4]at hc;simp only[List.getElem?_cons_zero,Option.some.injEq]at hc;rw[←hc,dig_of _ h4];omega
    ·exact h3 (by omega) c hc
def bI(n:Int):ByteArray:=⟨(Lib.itoa n).toArray⟩
theorem dec_ne(u:Nat):0<(Lib.decDigits u).length:=by rw[Lib.decDigits_length];have:=Lib.nDigits_pos u;omega
theorem nd_le:∀(k u:Nat),u<10 ^ (k+1)→Lib.nDigits u≤k+1
 |0,u,h=>by rw[Lib.nDigits_small (by simpa using h)];omega
 |k+1,u,h=>by
  by_cases h1:u<10
  ·rw[Lib.nDigits_small h1];omega
  ·rw[Lib.nDigits_big h1];have:=nd_le k (u / 10) (by rw[Nat.pow_succ]at h;omega);omega
theorem dec_le(u:Nat)(h:u≤9223372036854775808):(Lib.decDigits u).length≤19:=by rw[Lib.decDigits_length];exact nd_le 18 u (by omega)
theorem zero_of{l:List UInt8}:zeroB ⟨l.toArray⟩=match l with|c::_=>decide (c.toNat=48)|[]=>false:=by
 cases l with
 |nil=>rfl
 |cons c r=>rfl
theorem whole_itoa{n:Int}(h1:-9223372036854775808≤n)(h2:n≤9223372036854775807):wholeP (bI n)=some n:=by
 have hz:∀u,u≤9223372036854775808→∀s:ByteArray,(s=⟨(Lib.decDigits u).toArray⟩∨10≤u∨0<u)→¬((⟨(Lib.decDigits u).toArray⟩:ByteArray).size=0∨(zeroB ⟨(Lib.decDigits u).toArray⟩=true∧¬s=⟨#[48]⟩)∨19<(⟨(Lib.decDigits u).toArray⟩:ByteArray).size):=by
  intro u hu s hs;have e:(⟨(Lib.decDigits u).toArray⟩:ByteArray).size=(Lib.decDigits u).length:=rfl;have:=dec_ne u;have:=dec_le u hu;rw[e];rintro(h|⟨h,h'⟩|h)
  ·omega
  ·rw[zero_of]at h;by_cases h4:u<10
   ·rw[Lib.decDigits_one h4]at h hs;simp only[decide_eq_true_eq,dig_of u h4]at h;rcases hs with hs|hs|hs
    ·rw[hs]at h';obtain rfl:u=0:=by omega
     exact h' rfl
    ·omega
    ·omega
   ·have k3:=(dec_ok u).2.2 (by omega);match hd:Lib.decDigits u with
    |[]=>rw[hd]at h;cases h
    |c::r=>
     rw[hd]at h k3;exact k3 c rfl (by simpa using h)
  ·omega
 have hd:∀u:Nat,dgs ⟨(Lib.decDigits u).toArray⟩ 0 0=some u:=fun u=>by
  rw[dgs_num];show(if digsL (Lib.decDigits u)=true then some (dgv 0 (Lib.decDigits u)) else none)=_;rw[if_pos (dec_ok u).1,(dec_ok u).2.1]
 by_cases hn:n<0
 ·obtain⟨u,rfl⟩:∃u:Nat,n=-(u:Int):=⟨n.natAbs,by omega⟩;have hu:0<u:=by omega
  have hb:bI (-(u:Int))=⟨(45::Lib.decDigits u).toArray⟩:=by unfold bI Lib.itoa;rw[if_pos (by omega)];simp
  have hng:negB (bI (-(u:Int)))=true:=by rw[hb];rfl
  have hab:absP (bI (-(u:Int)))=⟨(Lib.decDigits u).toArray⟩:=by
   unfold absP;rw[if_pos hng,hb];apply ByteArray.ext;apply Array.ext';rw[ByteArray.data_extract];show((45::Lib.decDigits u).toArray.extract 1 (45::Lib.decDigits u).toArray.size).toList=_;simp
  unfold wholeP;rw[hab,if_neg (hz u (by omega) _ (Or.inr (Or.inr hu))),hd u];show(if negB _=true then _ else _)=_;rw[if_pos hng,if_pos (by omega)]
 ·obtain⟨u,rfl⟩:∃u:Nat,n=(u:Int):=⟨n.toNat,by omega⟩;have hb:bI (u:Int)=⟨(Lib.decDigits u).toArray⟩:=by unfold bI Lib.itoa;rw[if_neg (by omega)];simp
  have hng:negB (bI (u:Int))=false:=by
   rw[hb];match hd:Lib.decDigits u with
   |[]=>rfl
   |c::r=>
    have k1:=(dec_ok u).1;rw[hd]at k1;simp only[digsL,List.all_cons,Bool.and_eq_true,digN,decide_eq_true_eq]at k1;show decide (c.toNat=45)=false;rw[decide_eq_false];omega
  have hab:absP (bI (u:Int))=⟨(Lib.decDigits u).toArray⟩:=by unfold absP;rw[if_neg (by rw[hng];decide),hb]
  unfold wholeP;rw[hab,if_neg (hz u (by omega) _ (Or.inl hb)),hd u];show(if negB _=true then _ else _)=_;rw[if_neg (by rw[hng];decide),if_pos (by omega)]
theorem itoa_chars(n:Int):∀c∈Lib.itoa n,gapN c.toNat=false∧brkN c.toNat=false:=by
 have hd:∀u,∀c∈Lib.decDigits u,gapN c.toNat=false∧brkN c.toNat=false:=fun u c hc=>by
  have h1:=List.all_eq_true.1 (dec_ok u).1 c hc;simp only[digN,Bool.and_eq_true,decide_eq_true_eq]at h1;simp[gapN,brkN];omega
 intro c hc;unfold Lib.itoa at hc;split at hc
 ·rcases List.mem_cons.1 hc with rfl|hc
  ·decide
  ·exact hd _ c hc
 ·exact hd _ c hc
theorem itoa_ne(n:Int):Lib.itoa n≠[]:=by
 unfold Lib.itoa;split
 ·simp
 ·exact fun e=>by have:=dec_ne n.toNat;rw[e]at this;simp at this
end Go.Proofs.YtglihimiidiacaaGreatDoor
namespace Go.Proofs.YtglihimiidiacaaGreatDoor
open Go.RowKit Go.Sort
theorem byte_at{s:ByteArray}{A C:List UInt8}{c:UInt8}(h:s.data.toList=A++c::C):∃hl:A.length<s.size,s[A.length]=c:=by
 have hz:s.size=(A++c::C).length:=by rw[←h];simp
 refine⟨by rw[hz];simp,?_⟩;show s.data[A.length]'(by show A.length<s.size;rw[hz];simp)=c;rw[←Array.getElem_toList];simp[h]
theorem ext_mid{s:ByteArray}{A W C:List UInt8}(h:s.data.toList=A++(W++C)):s.extract A.length (A.length+W.length)=⟨W.toArray⟩:=by
 apply ByteArray.ext;apply Array.ext';rw[ByteArray.data_extract];show(s.data.extract A.length (A.length+W.length)).toList=W;rw[Array.toList_extract,h];simp
theorem wnd_word{s:ByteArray}{c:UInt8}{C:List UInt8}(hc:gapN c.toNat=true∨brkN c.toNat=true):∀(W A:List UInt8),s.data.toList=A++(W++c::C)→(∀x∈W,gapN x.toNat=false∧brkN x.toNat=false)→wnd s A.length=A.length+W.length
 |[],A,h,_=>by
  obtain⟨hl,e⟩:=byte_at (A:=A) (c:=c) (C:=C) (by simpa using h);rw[wnd_stop hl (by rw[e];exact hc)];rfl
 |x::r,A,h,hw=>by
  obtain⟨hl,e⟩:=byte_at (A:=A) (c:=x) (C:=r++c::C) (by simpa using h);have hx:=hw x (List.mem_cons_self ..);have ih:=wnd_word hc r (A++[x]) (by simpa using h) (fun y hy=>hw y (List.mem_cons_of_mem _ hy));rw[wnd_more hl (by rw[e];exact hx.1) (by rw[e];exact hx.2)];simp only[List.length_append,List.length_singleton]at ih;rw[ih];simp;omega
structure Tk (s:ByteArray) (p:Nat) (t:ByteArray) (A q:Nat):Prop where
 t:tokT s p=t
 a:tokA s p=A
 n:nxt s p=q
theorem Tk.word{s:ByteArray}{A W C:List UInt8}{c:UInt8}(h:s.data.toList=A++(W++c::C))(hW:W≠[])(hw:∀x∈W,gapN x.toNat=false∧brkN x.toNat=false)(hc:gapN c.toNat=true∨brkN c.toNat=true):Tk s A.length ⟨W.toArray⟩ A.length (A.length+W.length):=by
 have hs:skp s A.length=A.length:=by
  match W,hW,hw with
  |x::r,_,hw=>
   obtain⟨hl,e⟩:=byte_at (A:=A) (c:=x) (C:=r++c::C) (by simpa using h);exact skp_stop hl (by rw[e];exact(hw x (List.mem_cons_self ..)).1)
 have hk:0<W.length:=List.length_pos_iff.2 hW;have hn:nxt s A.length=A.length+W.length:=by
  unfold nxt tokE;rw[hs,wnd_word hc W A h hw,if_neg (by omega)]
 refine⟨?_,hs,hn⟩;unfold tokT tokA;rw[hn,hs];exact ext_mid (C:=c::C) h
theorem Tk.brk{s:ByteArray}{A C:List UInt8}{b:UInt8}(h:s.data.toList=A++b::C)(hb:brkN b.toNat=true)(hg:gapN b.toNat=false):Tk s A.length ⟨#[b]⟩ A.length (A.length+1):=by
 obtain⟨hl,e⟩:=byte_at h;have hs:skp s A.length=A.length:=skp_stop hl (by rw[e];exact hg);have hn:nxt s A.length=A.length+1:=by
  unfold nxt tokE;rw[hs,if_pos ⟨wnd_stop hl (by rw[e];exact Or.inr hb),hl⟩]
 refine⟨?_,hs,hn⟩;unfold tokT tokA;rw[hn,hs];exact ext_mid (W:=[b]) (C:=C) (by simpa using h)
theorem Tk.gap{s:ByteArray}{A C:List UInt8}{g:UInt8}{t:ByteArray}{a q:Nat}(h:s.data.toList=A++g::C)(hg:gapN g.toNat=true)(hT:Tk s (A.length+1) t a q):Tk s A.length t a q:=by
 obtain⟨hl,e⟩:=byte_at h;have hs:skp s A.length=skp s (A.length+1):=skp_gap hl (by rw[e];exact hg);refine⟨?_,?_,?_⟩
 ·rw[←hT.t,←tokT_skp s A.length,hs,tokT_skp]
 ·rw[←hT.a];exact hs
 ·rw[←hT.n,←nxt_skp s A.length,hs,nxt_skp]
theorem Tk.fin(s:ByteArray):Tk s s.size ⟨#[]⟩ s.size s.size:=by
 have hs:skp s s.size=s.size:=skp_end (Nat.le_refl _);have hn:nxt s s.size=s.size:=by
  unfold nxt tokE;rw[hs,if_neg (by omega),wnd_end (Nat.le_refl _)]
 refine⟨?_,hs,hn⟩;unfold tokT tokA;rw[hn,hs];apply ByteArray.ext;apply Array.ext';rw[ByteArray.data_extract];simp
section
variable (k:Nat) (a b:Int)
end
end Go.Proofs.YtglihimiidiacaaGreatDoor
