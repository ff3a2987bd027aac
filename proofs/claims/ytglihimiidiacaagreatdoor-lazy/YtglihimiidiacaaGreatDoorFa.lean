import Derived.Test.YtglihimiidiacaaGreatDoorEh
import Derived.Test.YtglihimiidiacaaGreatDoorCn
import Derived.Test.YtglihimiidiacaaGreatDoorCo
namespace Go.Proofs.YtglihimiidiacaaGreatDoor.Ev8
open Go Go.RowKit Go.Proofs Go.Proofs.YtglihimiidiacaaGreatDoor
variable {P:Program} {ι:Io}
theorem bs_succ(l n:Nat):(bsOf (l+1) n).data.toList=UInt8.ofNat (n % 256)::(bsOf l (n / 256)).data.toList:=by
 rw[bsOf_list,bsOf_list,List.range_succ_eq_map,List.map_cons,List.map_map];congr 1
 ·simp
 ·refine List.map_congr_left fun i _=>?_;show UInt8.ofNat (n / 256 ^ (i+1) % 256)=_;rw[Nat.pow_succ',Nat.div_div_eq_div_mul]
theorem bs_snoc{cl cv c:Nat}(h:cv<256 ^ cl)(hc:c<256):(bsOf (cl+1) (cv+c*256 ^ cl)).data.toList=(bsOf cl cv).data.toList++[UInt8.ofNat c]:=by
 have:=bsOf_append (la:=cl) (a:=cv) (lb:=1) (b:=c) h;rw[←this,ByteArray.data_append,Array.toList_append,bsOf_list 1 c];simp[Nat.mod_eq_of_lt hc]
theorem snoc_lt{cl cv c:Nat}(h:cv<256 ^ cl)(hc:c<256):cv+c*256 ^ cl<256 ^ (cl+1):=by
 have:c*256 ^ cl+256 ^ cl≤256 ^ (cl+1):=by
  rw[Nat.pow_succ,Nat.mul_comm (256 ^ cl) 256,←Nat.succ_mul];exact Nat.mul_le_mul_right _ (by omega)
 omega
def AccR(ι:Io):AV→List (ByteArray×Nat)→Prop
 |acc,[]=>acc=.nil
 |acc,d::ds=>∃x y r,acc=.cons x (.cons y r)∧RV ι x (.string d.1)∧RV ι y (.int .i64 (d.2:Int))∧AccR ι r ds
theorem AccR.rev:∀{ds:List (ByteArray×Nat)} {acc t:AV} {us:List Value},AccR ι acc ds→RL ι t us→RL ι (revA acc t) (ds.reverse.flatMap wC++us)
 |[],acc,t,us,h,ht=>by
  have:acc=.nil:=h;subst this;simpa[revA]using ht
 |d::ds,acc,t,us,⟨x,y,r,e,h1,h2,h3⟩,ht=>by
  subst e;have:=AccR.rev (t:=.cons x (.cons y t)) (us:=.string d.1::.int .i64 (d.2:Int)::us) h3 ⟨_,_,rfl,h1,_,_,rfl,h2,ht⟩;rw[revA];simpa[wC,List.flatMap_append]using this
theorem gap_eq(c:Nat):gapB c=gapN c:=by
 unfold gapB gapN;cases h1:Nat.beq c 32<;>cases h2:Nat.beq c 10<;>simp_all<;>first|done|(constructor<;>intro e<;>subst e<;>simp at h1 h2)|(intro e;subst e;simp at h1)|(intro e;subst e;simp at h2)
theorem brk_eq(c:Nat):brkB c=brkN c:=by
 unfold brkB brkN;cases h1:Nat.beq c 40<;>cases h2:Nat.beq c 41<;>simp_all<;>first|done|(constructor<;>intro e<;>subst e<;>simp at h1 h2)|(intro e;subst e;simp at h1)|(intro e;subst e;simp at h2)
theorem wPl_rv{o:Option Nat}{k p:Nat}(h:∀b,o=some b→b+k=p)(hp:p≤2000):RV ι (wPl o k) (.int .i64 (p:Int)):=by
 cases o with
 |none=>
  refine⟨[.int .i64 2000],⟨_,_,rfl,⟨rfl,?_⟩,rfl⟩,(p:Int),2000,rfl,by omega,by omega,by omega,rfl⟩;rw[IntKind.wrap_i64];rfl
 |some b=>
  have:=h b rfl;subst this;refine⟨rfl,?_⟩;rw[IntKind.wrap_i64];simp only[Int.ofNat_eq_natCast,Nat.add_eq];omega
section
variable {s:ByteArray}
structure CutI (s:ByteArray) (ι:Io) (A cur rest:List UInt8) (o:Option Nat) (k cl cv:Nat) (acc:AV):Prop where
 e:s.data.toList=A++(cur++rest)
 c:(bsOf cl cv).data.toList=cur
 v:cv<256 ^ cl
 w:∀x∈cur,gapN x.toNat=false∧brkN x.toNat=false
 a:∃ds,AccR ι acc ds∧ds.reverse++toks s A.length=toks s 0
 o:∀b,o=some b→b+k=A.length+cl
 kc:cl≤k
theorem CutI.cl{A cur rest:List UInt8}{o:Option Nat}{k cl cv:Nat}{acc:AV}(I:CutI s ι A cur rest o k cl cv acc):cur.length=cl:=by
 rw[←I.c,bsOf_list];simp
theorem CutI.flush{A cur rest:List UInt8}{c:UInt8}{o:Option Nat}{k cl cv:Nat}{acc:AV}(I:CutI s ι A cur (c::rest) o k cl cv acc)(hs:s.size≤2000)(hc:gapN c.toNat=true∨brkN c.toNat=true):CutI s ι (A++cur) [] (c::rest) o k 0 0 (flsh o k cl cv acc):=by
 have hcl:=I.cl;have hsz:s.size=(A++(cur++c::rest)).length:=by rw[←I.e];simp
 obtain⟨ds,d1,d2⟩:=I.a;refine⟨by rw[I.e];simp,by rw[bsOf_list];rfl,by simp,by simp,?_,fun b hb=>by have:=I.o b hb;simp;omega,Nat.zero_le _⟩;unfold flsh;cases hz:Nat.beq cl 0 with
 |true=>
  have:cur=[]:=List.eq_nil_of_length_eq_zero (by rw[hcl];exact Nat.eq_of_beq_eq_true hz);subst this;exact⟨ds,d1,by simpa using d2⟩
 |false=>
  have hne:cur≠[]:=fun q=>by
   rw[q]at hcl;simp at hcl;subst hcl;simp at hz
  have hT:=Tk.word I.e hne I.w hc;refine⟨(⟨cur.toArray⟩,A.length)::ds,⟨_,_,_,rfl,?_,?_,d1⟩,?_⟩
  ·show RL ι (.s cl cv) [.string ⟨cur.toArray⟩];have e:bsOf cl cv=⟨cur.toArray⟩:=by
    apply ByteArray.ext;rw[←I.c]
   rw[←e];rfl
  ·refine wPl_rv (fun b hb=>?_) ?_
   ·have:=I.o b hb;have:=I.kc;show b+(k-cl)=_;omega
   ·simp only[List.length_append]at hsz;show A.length≤2000;omega
  ·rw[List.reverse_cons,List.append_assoc,List.length_append,←d2];have h1:tokA s A.length<s.size:=by
    rw[hT.a,hsz];simp;omega
   rw[toks_cons h1,hT.t,hT.a,hT.n];rfl
theorem tokS_ok(hs:s.size≤2000):∀{l n k cl cv:Nat} {o:Option Nat} {acc:AV} {A cur rest:List UInt8},CutI s ι A cur ((bsOf l n).data.toList++rest) o k cl cv acc→∃A' cur',CutI s ι A' cur' rest o (k+l) (tokS o l n k cl cv acc).2.1 (tokS o l n k cl cv acc).2.2 (tokS o l n k cl cv acc).1
 |0,n,k,cl,cv,o,acc,A,cur,rest,I=>⟨A,cur,by simpa[bsOf_list,tokS]using I⟩
 |l+1,n,k,cl,cv,o,acc,A,cur,rest,I=>by
  rw[bs_succ]at I;have hlt:n % 256<256:=Nat.mod_lt _ (by omega);have hc8:(UInt8.ofNat (n % 256)).toNat=n % 256:=by rw[UInt8.toNat_ofNat'];omega
  rw[show k+(l+1)=(k+1)+l by omega];have em:Nat.mod n 256=n % 256:=rfl;have ed:Nat.div n 256=n / 256:=rfl;rw[tokS,em,ed];cases hb:brkB (n % 256) with
  |true=>
   rw[cond_true];have hbN:brkN (UInt8.ofNat (n % 256)).toNat=true:=by rw[hc8,←brk_eq];exact hb
   have hgN:gapN (UInt8.ofNat (n % 256)).toNat=false:=by
    rw[brkN_iff]at hbN;cases hg:gapN (UInt8.ofNat (n % 256)).toNat with
    |false=>rfl
    |true=>rw[gapN_iff]at hg;omega
   have J:=I.flush (c:=UInt8.ofNat (n % 256)) (rest:=(bsOf l (n / 256)).data.toList++rest) hs (.inr hbN);obtain⟨ds,d1,d2⟩:=J.a;have hsz:s.size=((A++cur)++([]++UInt8.ofNat (n % 256)::((bsOf l (n / 256)).data.toList++rest))).length:=by rw[←J.e];simp
   have hT:=Tk.brk (s:=s) (A:=A++cur) (b:=UInt8.ofNat (n % 256)) (C:=(bsOf l (n / 256)).data.toList++rest) (by rw[J.e];simp) hbN hgN;refine tokS_ok hs (A:=A++cur++[UInt8.ofNat (n % 256)]) (cur:=[]) ⟨by rw[J.e];simp,by rw[bsOf_list];rfl,by simp,by simp,?_,fun b hb'=>by have:=J.o b hb';simp at this ⊢;omega,Nat.zero_le _⟩;refine⟨(⟨#[UInt8.ofNat (n % 256)]⟩,(A++cur).length)::ds,⟨_,_,_,rfl,?_,wPl_rv (fun b hb'=>by have:=J.o b hb';simpa using this) (by simp at hsz ⊢;omega),d1⟩,?_⟩
   ·show RL ι (.s 1 (n % 256)) _;have e:bsOf 1 (n % 256)=⟨#[UInt8.ofNat (n % 256)]⟩:=by
     apply ByteArray.ext;apply Array.ext';rw[bsOf_list];simp
    rw[←e];rfl
   ·have h1:tokA s (A++cur).length<s.size:=by rw[hT.a,hsz];simp
    rw[List.reverse_cons,List.append_assoc,←d2,toks_cons h1,hT.t,hT.a,hT.n,List.length_append (bs:=[_])];rfl
  |false=>
   rw[cond_false];have hbN:brkN (UInt8.ofNat (n % 256)).toNat=false:=by rw[hc8,←brk_eq];exact hb
   cases hg:gapB (n % 256) with
   |true=>
    rw[cond_true];have hgN:gapN (UInt8.ofNat (n % 256)).toNat=true:=by rw[hc8,←gap_eq];exact hg
    have J:=I.flush (c:=UInt8.ofNat (n % 256)) (rest:=(bsOf l (n / 256)).data.toList++rest) hs (.inl hgN);obtain⟨ds,d1,d2⟩:=J.a;obtain⟨hl,hx⟩:=byte_at (s:=s) (A:=A++cur) (c:=UInt8.ofNat (n % 256)) (C:=(bsOf l (n / 256)).data.toList++rest) (by rw[J.e];simp);refine tokS_ok hs (A:=A++cur++[UInt8.ofNat (n % 256)]) (cur:=[]) ⟨by rw[J.e];simp,by rw[bsOf_list];rfl,by simp,by simp,⟨ds,d1,?_⟩,fun b hb'=>by have:=J.o b hb';simp at this ⊢;omega,Nat.zero_le _⟩;rw[List.length_append (bs:=[_])];show _++toks s ((A++cur).length+1)=_;rw[toks_gap hl (by rw[hx];exact hgN)];exact d2
   |false=>
    rw[cond_false];have hgN:gapN (UInt8.ofNat (n % 256)).toNat=false:=by rw[hc8,←gap_eq];exact hg
    refine tokS_ok hs (A:=A) (cur:=cur++[UInt8.ofNat (n % 256)]) ⟨by rw[I.e];simp,?_,snoc_lt I.v hlt,fun x hx=>?_,I.a,fun b hb'=>by have:=I.o b hb';show b+(k+1)=A.length+(cl+1);omega,Nat.succ_le_succ I.kc⟩
    ·have:=bs_snoc I.v hlt;rw[I.c]at this;exact this
    ·rcases List.mem_append.1 hx with h|h
     ·exact I.w x h
     ·obtain rfl:=List.mem_singleton.1 h;exact⟨hgN,hbN⟩
theorem cutL_ok(hs:s.size≤2000):∀{l acc r:AV} {o:Option Nat} {k cl cv:Nat} {ws:List Value} {rest A cur:List UInt8},cutL l o k cl cv acc=some r→RL ι l ws→catB ws=some rest→CutI s ι A cur rest o k cl cv acc→RL ι r ((toks s 0).flatMap wC):=by
 intro l;induction l with
 |nil=>
  intro acc r o k cl cv ws rest A cur h hr hc I;have:ws=[]:=hr;subst this;simp only[catB,Option.some.injEq]at hc;subst hc;simp only[cutL]at h;obtain⟨hz,h⟩:Nat.beq cl 0=true∧some (revA acc (.cons (.s 0 0) (.cons (wPl o k) .nil)))=some r:=by
   cases hz:Nat.beq cl 0 with
   |false=>rw[hz]at h;cases h
   |true=>rw[hz]at h;exact⟨rfl,h⟩
  have hcl:=I.cl;have hcur:cur=[]:=List.eq_nil_of_length_eq_zero (by rw[hcl];exact Nat.eq_of_beq_eq_true hz);have hcl0:cl=0:=Nat.eq_of_beq_eq_true hz;subst hcur;cases h;obtain⟨ds,d1,d2⟩:=I.a;have hA:A.length=s.size:=by
   have h0:=congrArg List.length I.e;rw[Array.length_toList,List.append_nil,List.append_nil]at h0;exact h0.symm
  have h1:¬tokA s A.length<s.size:=by
   unfold tokA;rw[hA,skp_end (Nat.le_refl _)];omega
  rw[toks_end h1]at d2;rw[←d2,List.flatMap_append];refine d1.rev ⟨.string ⟨#[]⟩,_,rfl,?_,.int .i64 (s.size:Int),[],rfl,wPl_rv (fun b hb=>?_) hs,rfl⟩
  ·show RL ι (.s 0 0) _;have e:bsOf 0 0=⟨#[]⟩:=by
    apply ByteArray.ext;apply Array.ext';rw[bsOf_list];rfl
   rw[←e];rfl
  ·have:=I.o b hb;omega
 |cons x t _ ih=>
  intro acc r o k cl cv ws rest A cur h hr hc I;obtain⟨v,ws',rfl,hx,ht⟩:=hr;match x,hx with
  |.s l n,hx=>
   have hv:v=.string (bsOf l n):=RV.str hx;subst hv;simp only[catB]at hc;cases hq:catB ws' with
   |none=>rw[hq]at hc;cases hc
   |some rest'=>
    rw[hq]at hc;simp only[Option.map_some,Option.some.injEq]at hc;subst hc;obtain⟨A',cur',J⟩:=tokS_ok hs I;exact ih h ht hq J
  |.r g j,hx=>
   simp only[cutL]at h;cases hz:and (Nat.beq cl 0) (and (isTx g) (hdB t)) with
   |false=>rw[hz]at h;cases h
   |true=>
    rw[hz,cond_true]at h;obtain⟨z0,z12⟩:=and_ok hz;obtain⟨z1,z2⟩:=and_ok z12;have hcl0:cl=0:=Nat.eq_of_beq_eq_true z0;have hcl:=I.cl;have hcur:cur=[]:=List.eq_nil_of_length_eq_zero (by rw[hcl];exact hcl0);subst hcur;obtain⟨E,hE,rfl⟩:=RV.tx z1 hx;simp only[catB]at hc;cases hq:catB ws' with
    |none=>rw[hq]at hc;cases hc
    |some rest'=>
     rw[hq]at hc;simp only[Option.map_some,Option.some.injEq]at hc;generalize hzz:dbl (g-40) (opX E)=z at hc hx;have hdl:(decB z).data.toList=Lib.itoa z:=rfl;rw[hdl]at hc;subst hc;obtain⟨c,rest2,hc2,hcc⟩:∃c rest2,rest'=c::rest2∧(gapN c.toNat=true∨brkN c.toNat=true):=by
      match t,z2,ht with
      |.cons (.s l n) t2,z2,ht=>
       obtain⟨v2,ws2,rfl,hx2,ht2⟩:=ht;have hv:v2=.string (bsOf l n):=RV.str hx2;subst hv;simp only[catB]at hq;cases hq2:catB ws2 with
       |none=>rw[hq2]at hq;cases hq
       |some r2=>
        rw[hq2]at hq;simp only[Option.map_some,Option.some.injEq]at hq;obtain⟨y1,y2⟩:=and_ok z2;have hl:=blt_lt y1;obtain⟨m,rfl⟩:∃m,l=m+1:=⟨l-1,by omega⟩;rw[bs_succ]at hq;have hc8:(UInt8.ofNat (n % 256)).toNat=n % 256:=by rw[UInt8.toNat_ofNat'];omega
        refine⟨_,_,hq.symm,?_⟩;rw[hc8,←gap_eq,←brk_eq];have em:Nat.mod n 256=n % 256:=rfl;rw[em]at y2;simpa using y2
     have hT:=Tk.word (s:=s) (A:=A) (W:=Lib.itoa z) (c:=c) (C:=rest2) (by rw[I.e,hc2];simp) (itoa_ne z) (itoa_chars z) hcc;obtain⟨ds,d1,d2⟩:=I.a;have hsz:s.size=(A++([]++(Lib.itoa z++rest'))).length:=by rw[←I.e];simp
     have hi:0<(Lib.itoa z).length:=List.length_pos_iff.2 (itoa_ne z);have h1:tokA s A.length<s.size:=by rw[hT.a,hsz];simp;omega
     refine ih h ht hq (A:=A++Lib.itoa z) (cur:=[]) ⟨by rw[I.e];simp,by rw[bsOf_list];rfl,by simp,by simp,⟨(decB z,A.length)::ds,⟨_,_,_,rfl,hx,wPl_rv (fun b hb=>by have:=I.o b hb;omega) (by simp at hsz;omega),d1⟩,?_⟩,(fun b hb=>by cases hb),Nat.zero_le _⟩;rw[List.reverse_cons,List.append_assoc,←d2,toks_cons h1,hT.t,hT.a,hT.n,List.length_append];rfl
  |.un,_=>simp[cutL]at h
  |.nil,_=>simp[cutL]at h
  |.cons _ _,_=>simp[cutL]at h
  |.v _,_=>simp[cutL]at h
  |.k _ _ _,_=>simp[cutL]at h
  |.sl _ _ _ _ _ _,_=>simp[cutL]at h
  |.ptr _ _,_=>simp[cutL]at h
  |.b _,_=>simp[cutL]at h
  |.i _ _,_=>simp[cutL]at h
 |_=>intro acc r o k cl cv ws rest A cur h;simp[cutL]at h
end
theorem normL_ok{R:Res}(hR:R≠.fail):∀{l:AV} {C:AV→Res},normL l C=R→C l=R:=by
 intro l;induction l with
 |nil=>exact fun h=>h
 |cons x l _ ih=>
  intro C h;change fV x (fun x=>normL l fun l=>C (.cons x l))=R at h;obtain⟨h1,-⟩:=fV_ok h hR;exact ih h1
 |_=>exact fun h=>absurd h.symm hR
theorem HR.new_not{H:HS}{w:World}(hr:HR ι H w){g:Nat}(hg:w.heap.size≤g):¬Own ι (hp H.h) g:=fun⟨b,E,_,h2,h3⟩=>by
 have:=hr.rel.inn b E h2;omega
theorem toks_pos(s:ByteArray)(p:Nat):0<(toks s p).length:=by
 by_cases h:tokA s p<s.size
 ·rw[toks_cons h];simp
 ·rw[toks_end h];simp
theorem cut_enter(args:Array Value)(w:World):(callFunc 39 args).run Tryz.prog w=.ok (.enter 39 args) w:=by
 obtain⟨c,hc⟩:∃c,Tryz.f39.body=some c:=⟨_,rfl⟩;simp[callFunc,Sem.run_bind,show(program:Sem Program).run Tryz.prog w=.ok Tryz.prog w from rfl,Result.andThen,Tryz.func39,hc];exact of_decide_eq_false (by kernel_rfl)
theorem hkCut_ok:HkOk Tryz.prog 39 (hkCut 176):=by
 intro ih _ k t H v H' h ι w args hr hta hsz;have hR:(Res.fv v H')≠.fail:=by simp
 change iB (Nat.beq k 1) (cutC 176 t.a0 H) .fail=_ at h;obtain⟨c1,h1⟩:=iB_ok hR h;clear h;have hk:k=1:=Nat.eq_of_beq_eq_true c1;subst hk;refine⟨cut_enter _ _,?_⟩;obtain⟨u0,rfl,r0⟩:=arg1 hta hsz;change RV ι t.a0 u0 at r0;unfold cutC at h1;split at h1
 ·rename_i t4 l e0
  rw[e0]at r0;split at h1
  ·rename_i lb ub hsg
   obtain⟨c2,h2⟩:=iB_ok hR h1;obtain⟨l1,c3,h3⟩:=oR_ok h2 hR;have h4:=normL_ok hR h3;obtain⟨hh,nx⟩:=H;change newB (some 176) l1 hh nx (fun h nx2=>fN (Nat.div (lenA l1) 2) fun m=>.fv (.sl nx 2 0 0 m none) ⟨h,nx2⟩)=_ at h4;obtain⟨B,n,hnx,hn,hB,h5⟩:=newB_ok h4 hR;rw[fN_eq]at h5;cases h5;obtain⟨ws,bs,k1,k2,rfl⟩:=RV.cat r0;obtain⟨bs',k3,-,k4⟩:=segs_ok hsg k1;rw[k2]at k3;cases k3;have hs:(⟨bs.toArray⟩:ByteArray).size≤2000:=by
    have:=Nat.le_of_ble_eq_true c2;show bs.toArray.size≤2000;rw[List.size_toArray];omega
   have hw:=cutL_ok (s:=⟨bs.toArray⟩) hs c3 k1 k2 (A:=[]) (cur:=[]) ⟨by simp,by rw[bsOf_list];rfl,by simp,by simp,⟨[],rfl,rfl⟩,fun b hb=>by simp at hb;subst hb;rfl,Nat.zero_le _⟩;refine callsIn_wide.2 ((cut_any ⟨bs.toArray⟩ w hs).mono fun e w' hq=>?_);obtain⟨hb,g,c,rfl,hrow⟩:=hq;have A0:=Ad.start hr hb;have hgb:(Value.slice (some ⟨g,0,none⟩) (toks ⟨bs.toArray⟩ 0).length c).ownBlock=some g:=rfl;have hg:=(hrow.rg g (List.mem_append_left _ (mem_vB.2 hgb))).1;have hpos:0<(toks ⟨bs.toArray⟩ 0).length:=toks_pos _ _;obtain⟨ι',A1,-,hv,-⟩:=A0.row hr.sn hrow.own hpos hgb hg (hr.new_not hg) hB hnx hw;have hlen:=(RL.len hB.2.1 hw).1;have hl2:lenA l1=2*(toks ⟨bs.toArray⟩ 0).length:=by
    rw[lenA_of hB.2.1,←hlen];clear hlen hv hrow hw hpos hg hgb;induction toks ⟨bs.toArray⟩ 0 with
    |nil=>rfl
    |cons a r ih=>rw[List.flatMap_cons,List.length_append,ih];simp[wC];omega
   have hd:Nat.div (lenA l1) 2=(toks ⟨bs.toArray⟩ 0).length:=by
    show lenA l1 / 2=_;omega
   rw[hd];exact⟨_,ι',rfl,hv,A1.hr,A1.go⟩
  ·cases h1
 ·cases h1
end Go.Proofs.YtglihimiidiacaaGreatDoor.Ev8
