import Derived.WalkKit
set_option maxRecDepth 100000
namespace Go.Proofs.YtefpamchdheldaaGreatDoor
def cP:BitVec 32:=0x04C11DB7#32
def cPr:BitVec 32:=0xEDB88320#32
def cT(r:BitVec 32):BitVec 32:=(r<<<1) ^^^ (if r.getLsbD 31 then cP else 0#32)
def cR(r:BitVec 32):BitVec 32:=(r>>>1) ^^^ (if r.getLsbD 0 then cPr else 0#32)
def cB(b:Bool):BitVec 32:=if b then 1#32 else 0#32
def iterT:Nat->BitVec 32->BitVec 32
 |0,r=>r
 |n+1,r=>cT (iterT n r)
theorem cP_rev:∀i,i<32->cPr.getLsbD i=cP.getLsbD (31-i):=by decide
theorem ite_bit(c:Bool)(x:BitVec 32)(i:Nat):(if c then x else 0#32).getLsbD i=(c && x.getLsbD i):=by cases c<;>simp
theorem cT_bit(r:BitVec 32)(i:Nat)(hi:i<32):(cT r).getLsbD i=((decide (0<i) && r.getLsbD (i-1)) ^^ (r.getLsbD 31 && cP.getLsbD i)):=by
 unfold cT;rw[BitVec.getLsbD_xor,ite_bit,BitVec.getLsbD_shiftLeft];by_cases h:0<i
 ·simp[hi,h,show ¬i<1 by omega]
 ·simp[show i=0 by omega]
theorem cR_bit(r:BitVec 32)(i:Nat):(cR r).getLsbD i=(r.getLsbD (1+i) ^^ (r.getLsbD 0 && cPr.getLsbD i)):=by
 unfold cR;rw[BitVec.getLsbD_xor,ite_bit,BitVec.getLsbD_ushiftRight]
theorem cT_xor(a b:BitVec 32):cT (a ^^^ b)=cT a ^^^ cT b:=by
 apply BitVec.eq_of_getLsbD_eq;intro i hi;rw[BitVec.getLsbD_xor,cT_bit _ _ hi,cT_bit _ _ hi,cT_bit _ _ hi,BitVec.getLsbD_xor,BitVec.getLsbD_xor];cases a.getLsbD 31<;>cases b.getLsbD 31<;>cases cP.getLsbD i<;>cases a.getLsbD (i-1)<;>cases b.getLsbD (i-1)<;>cases decide (0<i)<;>rfl
theorem cR_xor(a b:BitVec 32):cR (a ^^^ b)=cR a ^^^ cR b:=by
 apply BitVec.eq_of_getLsbD_eq;intro i hi;rw[BitVec.getLsbD_xor,cR_bit,cR_bit,cR_bit,BitVec.getLsbD_xor,BitVec.getLsbD_xor];cases a.getLsbD 0<;>cases b.getLsbD 0<;>cases cPr.getLsbD i<;>cases a.getLsbD (1+i)<;>cases b.getLsbD (1+i)<;>rfl
theorem cT_zero:cT 0#32=0#32:=by decide
theorem rev_bit(r:BitVec 32)(i:Nat)(hi:i<32):r.reverse.getLsbD i=r.getLsbD (31-i):=by
 rw[BitVec.getLsbD_reverse,BitVec.getMsbD];simp[hi]
theorem cR_rev(c:BitVec 32):(cR c).reverse=cT c.reverse:=by
 apply BitVec.eq_of_getLsbD_eq;intro i hi;rw[rev_bit _ _ hi,cR_bit,cT_bit _ _ hi,rev_bit _ 31 (by omega),cP_rev _ (by omega),show 31-(31-i)=i by omega,show 31-31=0 from rfl];by_cases h:0<i
 ·rw[rev_bit _ (i-1) (by omega),show 31-(i-1)=1+(31-i) by omega];simp[h]
 ·obtain rfl:i=0:=by omega
  simp
theorem rev_xor(a b:BitVec 32):(a ^^^ b).reverse=a.reverse ^^^ b.reverse:=by
 apply BitVec.eq_of_getLsbD_eq;intro i hi;rw[BitVec.getLsbD_xor,rev_bit _ _ hi,rev_bit _ _ hi,rev_bit _ _ hi,BitVec.getLsbD_xor]
theorem iterT_xor(a b:BitVec 32):∀n,iterT n (a ^^^ b)=iterT n a ^^^ iterT n b
 |0=>rfl
 |n+1=>by simp only[iterT];rw[iterT_xor a b n,cT_xor]
theorem iterT_zero:∀n,iterT n 0#32=0#32
 |0=>rfl
 |n+1=>by simp only[iterT];rw[iterT_zero n,cT_zero]
theorem iterT_add(m:Nat)(a:BitVec 32):∀n,iterT (m+n) a=iterT n (iterT m a)
 |0=>rfl
 |n+1=>by rw[<-Nat.add_assoc];simp only[iterT];rw[iterT_add m a n]
theorem iterT_succ'(n:Nat)(a:BitVec 32):iterT (n+1) a=iterT n (cT a):=by
 rw[Nat.add_comm,iterT_add 1 a n];rfl
theorem iterT_32(b:Bool):iterT 32 (cB b)=if b then cP else 0#32:=by cases b<;>decide
def mBit(s:List UInt8)(k:Nat):Bool:=decide (k<8*s.length) && (s.getD (k / 8) 0).toNat.testBit (k % 8)
def divM(s:List UInt8):Nat->BitVec 32
 |0=>0#32
 |k+1=>cT (divM s k) ^^^ cB (mBit s k)
def divO:Nat->BitVec 32
 |0=>0#32
 |k+1=>cT (divO k) ^^^ cB (decide (k<32))
def divB(s:List UInt8):Nat->BitVec 32
 |0=>0#32
 |k+1=>cT (divB s k) ^^^ cB (mBit s k ^^ decide (k<32))
theorem cB_xor(a b:Bool):cB (a ^^ b)=cB a ^^^ cB b:=by cases a<;>cases b<;>decide
theorem divB_split(s:List UInt8):∀k,divB s k=divM s k ^^^ divO k
 |0=>by simp[divB,divM,divO]
 |k+1=>by
  simp only[divB,divM,divO];rw[divB_split s k,cT_xor,cB_xor];ac_rfl
theorem divO_32:divO 32=0xFFFFFFFF#32:=by decide
theorem divO_add:∀j,divO (32+j)=iterT j 0xFFFFFFFF#32
 |0=>divO_32
 |j+1=>by
  rw[<-Nat.add_assoc];simp only[divO,iterT];rw[divO_add j,show decide (32+j<32)=false by simp];simp[cB]
theorem divM_add(s:List UInt8):∀j,divM s (8*s.length+j)=iterT j (divM s (8*s.length))
 |0=>rfl
 |j+1=>by
  rw[<-Nat.add_assoc];simp only[divM,iterT];rw[divM_add s j,show mBit s (8*s.length+j)=false by unfold mBit;rw[decide_eq_false (by omega)];rfl];simp[cB]
def regB(s:List UInt8):Nat->BitVec 32
 |0=>0xFFFFFFFF#32
 |k+1=>cT (regB s k) ^^^ (if mBit s k then cP else 0#32)
theorem regB_eq(s:List UInt8):∀k,regB s k=iterT k 0xFFFFFFFF#32 ^^^ iterT 32 (divM s k)
 |0=>by rw[show divM s 0=0#32 from rfl,iterT_zero 32];simp[regB,iterT]
 |k+1=>by
  simp only[regB,divM];rw[regB_eq s k,cT_xor,iterT_xor,iterT_32,<-iterT_succ' 32];simp only[iterT];rw[BitVec.xor_assoc]
theorem div_reg(s:List UInt8):divB s (8*s.length+32)=regB s (8*s.length):=by
 rw[divB_split,regB_eq,divM_add,Nat.add_comm (8*s.length) 32,divO_add,BitVec.xor_comm]
def iterR:Nat->BitVec 32->BitVec 32
 |0,r=>r
 |n+1,r=>cR (iterR n r)
def regP(s:List UInt8):Nat->BitVec 32
 |0=>0xFFFFFFFF#32
 |i+1=>iterR 8 (regP s i ^^^ BitVec.ofNat 32 (s.getD i 0).toNat)
def stepB(c:BitVec 32)(b:Nat):Nat->BitVec 32
 |0=>c
 |j+1=>cR (stepB c b j ^^^ cB (b.testBit j))
theorem cR_shl(z:BitVec 32)(hz:z.getLsbD 31=false):cR (z<<<1)=z:=by
 apply BitVec.eq_of_getLsbD_eq;intro i hi;rw[cR_bit,BitVec.getLsbD_shiftLeft,BitVec.getLsbD_shiftLeft];by_cases h:i=31
 ·subst h;rw[hz];simp
 ·simp[show 1+i<32 by omega,show 1+i-1=i by omega]
theorem split_bit(n:Nat):BitVec.ofNat 32 n=cB (n.testBit 0) ^^^ (BitVec.ofNat 32 (n / 2)<<<1):=by
 apply BitVec.eq_of_getLsbD_eq;intro i hi;rw[BitVec.getLsbD_xor,BitVec.getLsbD_shiftLeft,BitVec.getLsbD_ofNat,BitVec.getLsbD_ofNat];have h1:(cB (n.testBit 0)).getLsbD i=(n.testBit 0 && decide (i=0)):=by
  unfold cB;split
  ·rename_i h;rw[h];simp[BitVec.getLsbD_one]
  ·rename_i h;simp at h;simp[h]
 rw[h1];by_cases h:i=0
 ·subst h;simp
 ·obtain⟨k,rfl⟩:∃k,i=k+1:=⟨i-1,by omega⟩;simp[hi,Nat.testBit_succ,show k<32 by omega]
theorem iterR_step(c:BitVec 32)(b:Nat)(hb:b<256):∀j,iterR j (c ^^^ BitVec.ofNat 32 b)=stepB c b j ^^^ BitVec.ofNat 32 (b / 2 ^ j)
 |0=>by simp[iterR,stepB]
 |j+1=>by
  simp only[iterR,stepB];rw[iterR_step c b hb j,split_bit (b / 2 ^ j),<-BitVec.xor_assoc,cR_xor,cR_shl,Nat.div_div_eq_div_mul,<-Nat.pow_succ]
  ·congr 3
   simp[Nat.testBit,Nat.shiftRight_eq_div_pow]
  ·rw[BitVec.getLsbD_ofNat,Nat.div_div_eq_div_mul,<-Nat.pow_succ];have:b / 2 ^ (j+1)<2 ^ 31:=Nat.lt_of_le_of_lt (Nat.div_le_self _ _) (by omega);simp[Nat.testBit_lt_two_pow this]
theorem rev_cB(b:Bool):cT (cB b).reverse=if b then cP else 0#32:=by
 cases b
 ·have:(cB false).reverse=0#32:=by
   apply BitVec.eq_of_getLsbD_eq;intro i hi;rw[rev_bit _ _ hi];simp[cB]
  rw[this];exact cT_zero
 ·have:(cB true).reverse=0x80000000#32:=by
   apply BitVec.eq_of_getLsbD_eq;intro i hi;rw[rev_bit _ _ hi];revert i;decide
  rw[this];decide
theorem stepB_reg(s:List UInt8)(i:Nat)(hi:i<s.length)(c:BitVec 32)(hc:c.reverse=regB s (8*i)):∀j,j<=8->(stepB c (s.getD i 0).toNat j).reverse=regB s (8*i+j)
 |0,_=>hc
 |j+1,hj=>by
  rw[<-Nat.add_assoc];simp only[stepB,regB];rw[cR_rev,rev_xor,cT_xor,stepB_reg s i hi c hc j (by omega),rev_cB];have:mBit s (8*i+j)=(s.getD i 0).toNat.testBit j:=by
   unfold mBit;rw[show(8*i+j) / 8=i by omega,show(8*i+j) % 8=j by omega];simp[show 8*i+j<8*s.length by omega]
  rw[this]
theorem regP_reg(s:List UInt8):∀i,i<=s.length->(regP s i).reverse=regB s (8*i)
 |0,_=>by
  apply BitVec.eq_of_getLsbD_eq;intro i hi;rw[rev_bit _ _ hi];simp only[regP,regB];revert i;decide
 |i+1,hi=>by
  simp only[regP];have hb:(s.getD i 0).toNat<256:=(s.getD i 0).toNat_lt;rw[iterR_step _ _ hb 8,show(s.getD i 0).toNat / 2 ^ 8=0 by omega];have:=stepB_reg s i (by omega) _ (regP_reg s i (by omega)) 8 (by omega);simpa[Nat.mul_add]using this
theorem div_regP(s:List UInt8):(divB s (8*s.length+32)).reverse=regP s s.length:=by
 rw[div_reg,<-regP_reg s s.length (Nat.le_refl _)];apply BitVec.eq_of_getLsbD_eq;intro i hi;rw[rev_bit _ _ hi,rev_bit _ _ (by omega),show 31-(31-i)=i by omega]
theorem ref_step(r:BitVec 32)(b:Bool):(cT r ^^^ cB b).toNat=if 4294967296<=2*r.toNat+b.toNat then (2*r.toNat+b.toNat) ^^^ 4374732215 else 2*r.toNat+b.toNat:=by
 have hr:=r.isLt;have hm:r.getLsbD 31=decide (2147483648<=r.toNat):=by
  rw[BitVec.getLsbD,Nat.testBit_eq_decide_div_mod_eq];by_cases h:2147483648<=r.toNat
  ·simp only[h,decide_true,decide_eq_true_eq];omega
  ·simp only[h,decide_false,decide_eq_false_iff_not];omega
 have hc:(cB b).toNat=b.toNat:=by cases b<;>rfl
 have he:∀n:Nat,n % 2=0->n ^^^ b.toNat=n+b.toNat:=by
  intro n hn;cases b
  ·simp
  ·obtain⟨m,rfl⟩:∃m,n=2*m:=⟨n / 2,by omega⟩;apply Nat.eq_of_testBit_eq;intro i;rw[Nat.testBit_xor];cases i with
   |zero=>simp[Nat.testBit_zero]
   |succ i=>
    rw[Nat.testBit_succ,Nat.testBit_succ,Nat.testBit_succ];simp[show(2*m+1) / 2=m by omega]
 unfold cT;rw[BitVec.toNat_xor,BitVec.toNat_xor,BitVec.toNat_shiftLeft,hc,hm];by_cases h:2147483648<=r.toNat
 ·simp only[h,decide_true,if_true];rw[if_pos (by omega)];have h1:r.toNat<<<1 % 2 ^ 32=2*r.toNat-4294967296:=by rw[Nat.shiftLeft_eq];omega
  have h2:(2*r.toNat+b.toNat) ^^^ 4374732215<4294967296:=by
   have h3:((2*r.toNat+b.toNat) ^^^ 4374732215) / 2 ^ 32=((2*r.toNat+b.toNat) / 2 ^ 32) ^^^ (4374732215 / 2 ^ 32):=Nat.xor_div_two_pow;have hb:b.toNat<=1:=by cases b<;>simp
   rw[show(2*r.toNat+b.toNat) / 2 ^ 32=1 by omega]at h3;simp at h3;omega
  have h4:((2*r.toNat+b.toNat) ^^^ 4374732215) % 2 ^ 32=((2*r.toNat+b.toNat) % 2 ^ 32) ^^^ (4374732215 % 2 ^ 32):=Nat.xor_mod_two_pow;rw[Nat.mod_eq_of_lt (by omega)]at h4;have hb:b.toNat<=1:=by cases b<;>simp
  rw[h4,h1,show(2*r.toNat+b.toNat) % 2 ^ 32=(2*r.toNat-4294967296)+b.toNat by omega,<-he _ (by omega)];rw[show(cP).toNat=79764919 from rfl,show 4374732215 % 2 ^ 32=79764919 from rfl];generalize 79764919=q;rw[Nat.xor_assoc,Nat.xor_assoc,Nat.xor_comm q]
 ·have hb:b.toNat<=1:=by cases b<;>simp
  rw[decide_eq_false h,if_neg (by simp),show(0#32).toNat=0 from rfl,Nat.xor_zero];rw[if_neg (by omega),Nat.shiftLeft_eq,Nat.mod_eq_of_lt (by omega),show r.toNat*2 ^ 1=2*r.toNat by omega];exact he _ (by omega)
theorem prog_step(c:BitVec 32):(cR c).toNat=if c.toNat % 2=1 then (c.toNat / 2) ^^^ 3988292384 else c.toNat / 2:=by
 unfold cR;have h0:c.getLsbD 0=decide (c.toNat % 2=1):=by rw[BitVec.getLsbD,Nat.testBit_zero]
 rw[BitVec.toNat_xor,BitVec.toNat_ushiftRight,h0,Nat.shiftRight_eq_div_pow];by_cases h:c.toNat % 2=1
 ·simp only[h,decide_true,if_true];rfl
 ·simp[h]
def sumK(r:Nat):Nat->Nat
 |0=>0
 |k+1=>2*sumK r k+(1-r / 2 ^ k % 2)
theorem sumK_bit(r:Nat):∀k i,(sumK r k).testBit i=(decide (i<k) && !r.testBit (k-1-i))
 |0,i=>by simp[sumK]
 |k+1,i=>by
  cases i with
  |zero=>
   rw[Nat.testBit_zero];simp only[sumK,Nat.add_sub_cancel,Nat.sub_zero];rw[Nat.testBit_eq_decide_div_mod_eq];rcases Nat.mod_two_eq_zero_or_one (r / 2 ^ k) with h|h
   ·simp[h]
   ·simp[h]
  |succ i=>
   rw[Nat.testBit_succ];simp only[sumK];rw[show(2*sumK r k+(1-r / 2 ^ k % 2)) / 2=sumK r k by omega,sumK_bit r k i,show k+1-1-(i+1)=k-1-i by omega];simp
theorem sumK_lt(r:Nat):∀k,sumK r k<2 ^ k
 |0=>by simp[sumK]
 |k+1=>by
  have:=sumK_lt r k;simp only[sumK,Nat.pow_succ];omega
theorem sumK_eq(r:BitVec 32):sumK r.toNat 32=(~~~ r.reverse).toNat:=by
 apply Nat.eq_of_testBit_eq;intro i;rw[sumK_bit];by_cases h:i<32
 ·rw[show(~~~ r.reverse).toNat.testBit i=(~~~ r.reverse).getLsbD i from rfl,BitVec.getLsbD_not,rev_bit _ _ h];simp only[h,decide_true,Bool.true_and];rfl
 ·rw[show(~~~ r.reverse).toNat.testBit i=(~~~ r.reverse).getLsbD i from rfl,BitVec.getLsbD_of_ge _ _ (by omega)];simp[h]
def crc(s:List UInt8):Nat:=(~~~ regP s s.length).toNat
theorem crc_ref(s:List UInt8):sumK (divB s (8*s.length+32)).toNat 32=crc s:=by rw[sumK_eq,div_regP];rfl
theorem crc_lt(s:List UInt8):crc s<4294967296:=(~~~ regP s s.length).isLt
end Go.Proofs.YtefpamchdheldaaGreatDoor
