import Derived.Test.YtglihimiidiacaaGreatDoorEb
import Derived.Laws.IdiomStrings
import Derived.Lib.UnsafeStr
namespace Go.Proofs.YtglihimiidiacaaGreatDoor.Ev8
open Go
variable {τ τ':Option TypeId} {P:Program} {ι:Io} {h:Hp} {nx:Nat} {w:World} {ev:Operand→Value} {ρ:Operand→AV} {o:Oper}
theorem rl_of:∀{l:AV} {vs:List Value} {n:Nat},lenL' l=some n→vs.length=n→(∀i v,vs[i]?=some v→RV ι (nthA l i) v)→RL ι l vs:=by
 intro l;induction l with
 |nil=>intro vs n h h1 _;simp only[lenL',Option.some.injEq]at h;subst h;exact List.length_eq_zero_iff.1 h1
 |cons x l _ ih=>
  intro vs n h h1 h2;simp only[lenL']at h;cases hq:lenL' l with
  |none=>rw[hq]at h;cases h
  |some m=>
   rw[hq]at h;simp only[Option.map_some,Option.some.injEq]at h;subst h;cases vs with
   |nil=>simp at h1
   |cons v vs=>exact⟨v,vs,rfl,h2 0 v rfl,ih hq (by simpa using h1) fun i u hu=>h2 (i+1) u (by simpa using hu)⟩
 |_=>intro vs n h;simp[lenL']at h
noncomputable def onto(R z:AV):AV:=AV.rec (motive:=fun _=>AV) .nil R (fun x _ _ ih=>.cons x ih) (fun _=>.nil) (fun _ _=>.nil) (fun _ _ _ _=>.nil) (fun _ _=>.nil) (fun _ _ _ _ _ _=>.nil) (fun _ _=>.nil) (fun _=>.nil) (fun _ _=>.nil) z
theorem repA_succ(z l:AV)(n:Nat):repA z (n+1) l=onto (repA z n l) z:=rfl
theorem onto_len{R:AV}{b:Nat}(hb:lenL' R=some b):∀{z:AV} {a:Nat},lenL' z=some a→lenL' (onto R z)=some (a+b)∧(∀i,i<a→nthA (onto R z) i=nthA z i)∧∀i,nthA (onto R z) (a+i)=nthA R i:=by
 intro z;induction z with
 |nil=>intro a h;simp only[lenL',Option.some.injEq]at h;subst h;exact⟨by simpa[onto]using hb,fun i hi=>by omega,fun i=>by simp[onto]⟩
 |cons x z _ ih=>
  intro a h;simp only[lenL']at h;cases hq:lenL' z with
  |none=>rw[hq]at h;cases h
  |some m=>
   rw[hq]at h;simp only[Option.map_some,Option.some.injEq]at h;subst h;obtain⟨c1,c2,c3⟩:=ih hq;have e:onto R (.cons x z)=.cons x (onto R z):=rfl;rw[e];refine⟨by simp only[lenL',c1,Option.map_some];congr 1;omega,fun i hi=>?_,fun i=>?_⟩
   ·cases i with
    |zero=>rfl
    |succ i=>exact c2 i (by omega)
   ·rw[show m+1+i=(m+i)+1 by omega];exact c3 i
 |_=>intro a h;simp[lenL']at h
theorem repA_len{z:AV}{a:Nat}(hz:lenL' z=some a)(ha:0<a):∀n,lenL' (repA z n .nil)=some (n*a)∧∀i,i<n*a→nthA (repA z n .nil) i=nthA z (i % a)
 |0=>⟨by simp[repA,lenL'],fun i hi=>by omega⟩
 |n+1=>by
  obtain⟨h1,h2⟩:=repA_len hz ha n;obtain⟨c1,c2,c3⟩:=onto_len h1 hz;rw[repA_succ];refine⟨by rw[c1,Nat.add_mul,Nat.one_mul,Nat.add_comm],fun i hi=>?_⟩;by_cases hia:i<a
  ·rw[c2 i hia,Nat.mod_eq_of_lt hia]
  ·obtain⟨j,rfl⟩:∃j,i=a+j:=⟨i-a,by omega⟩;rw[c3,h2 j (by rw[Nat.add_mul]at hi;omega),Nat.add_mod_left]
theorem rep_rl{z:AV}{zc:Array Value}(hz:lenL' z=some zc.size)(ha:0<zc.size)(hr:RL ι z zc.toList)(n:Nat):RL ι (repA z n .nil) ((Array.range (n*zc.size)).map (zc[·% zc.size]!)).toList:=by
 obtain⟨h1,h2⟩:=repA_len hz ha n;refine rl_of h1 (by simp) fun i v hv=>?_;have hi:i<n*zc.size:=by
  have:=(List.getElem?_eq_some_iff.1 hv).1;simpa using this
 rw[h2 i hi];obtain⟨v',a1,a2⟩:=(RL.len hz hr).2 (i % zc.size) (Nat.mod_lt _ ha);have e:v=v':=by
  simp[hi]at hv;rw[←hv];have:=Nat.mod_lt i ha;simp at a1;rw[getElem!_pos zc _ this];rw[Array.getElem?_eq_getElem this]at a1;exact Option.some.inj a1
 rw[e];exact a2
theorem wr_bsl{t el:TypeId}{len:Nat}{ps:Array (Nat×Operand)}(ho:o.op=.buildSlice t len ps)(hr:Rel ι h nx w)(ht:P.underlying t=some (.slice el)){i:TypeInfo}(hi:P.info? el=some i){z:Value}(hz:i.zero=some z)(hzs:z.cells.size=i.size)(hpos:0<i.size)
 (hlen:len*i.size≤16777216) {zl m:AV} (hzl:lenL' zl=some z.cells.size) (hzr:RL ι zl z.cells.toList) (hx:∀x,RV ι (ρ x) (ev x)) (hone:∀p∈ps.toList,oneA (ρ p.2)=true∨∃t k,ρ p.2=.k 0 t k)
 (hb:bldS ρ (fun j=>some (j*i.size,i.size)) ps.toList (repA zl len .nil)=some m) (hm:lenL' m=some (len*i.size)) (c:Nat):Wr P ι h w ev o (.sl nx i.size 0 0 len (some len)) (upd h nx (.c (some el) (nthA m) (len*i.size))) (nx+1):=by
 have hrep:=rep_rl hzl (by omega) hzr len;obtain⟨us,f1,f2,f3⟩:=bld_rl hx hb hrep hone;have g:=hr.row (w':={w with heap:=w.heap.push (.cells us.toArray el)}) (ws:=[]) (t:=el) (fr:=(0,0)) hm f2 (by simp) (fun i _=>by simp) c;refine⟨.value (.slice (some ⟨w.heap.size,0,none⟩) len len),_,_,_,?_,.inl rfl,⟨_,upd_same _ _ _,?_,by simp,?_⟩,g⟩
 ·have hzv:∀w,(zeroValue el).run P w=.ok z w:=fun w=>by simp[zeroValue,Sem.run_bind,run_info hi,Result.andThen,hz]
  simp only[execOp,ho,Instr.buildSlice,Sem.run_bind,run_und ht,Result.andThen,Go.sizeOf,run_info hi,Sem.run_pure,if_neg (show ¬len*i.size>2 ^ 24 by rw[show(2:Nat) ^ 24=16777216 by decide];omega)];rw[hzs]at f1;by_cases h0:len*i.size=0
  ·rw[if_pos h0];simp only[Sem.run_bind,Sem.run_pure,Result.andThen,Array.toList_map];have e0:(Array.map (fun x=>(#[]:Array Value)[x % (#[]:Array Value).size]!) (Array.range (len*i.size)))=((Array.range (len*i.size)).map (z.cells[·% i.size]!)).toList.toArray:=by rw[h0];apply Array.toList_inj.1;simp
   rw[e0,f1];rfl
  ·rw[if_neg h0];simp only[Sem.run_bind,Sem.run_pure,Result.andThen,Array.toList_map,hzv,hzs];have e0:(Array.map (fun x=>z.cells[x % i.size]!) (Array.range (len*i.size)))=((Array.range (len*i.size)).map (z.cells[·% i.size]!)).toList.toArray:=by rw[Array.toArray_toList]
   rw[e0,f1];rfl
 ·exact Nat.le_refl _
 ·show [Value.slice _ _ _]=[Value.slice _ _ len];simp
end Go.Proofs.YtglihimiidiacaaGreatDoor.Ev8
namespace Go.Proofs.YtglihimiidiacaaGreatDoor.Ev8
open Go
variable {τ τ':Option TypeId} {P:Program} {ι:Io} {h:Hp} {nx:Nat} {w:World} {ev:Operand→Value} {ρ:Operand→AV} {o:Oper}
theorem wr_mks{t el:TypeId}{x y:Operand}(ho:o.op=.makeSlice t x y)(hr:Rel ι h nx w)(ht:P.underlying t=some (.slice el)){i:TypeInfo}(hi:P.info? el=some i){z:Value}(hz:i.zero=some z)(hzs:z.cells.size=i.size)(hpos:0<i.size)
 {zl:AV} (hzl:lenL' zl=some z.cells.size) (hzr:RL ι zl z.cells.toList) {n:Nat} {k k':IntKind} (hx:RV ι (.i k (.ofNat n)) (ev x)) (hy:RV ι (.i k' (.ofNat n)) (ev y)) (hn:n≤4096) (hb:i.bytes≤1073741824) (c:Nat):
 Wr P ι h w ev o (.sl nx i.size 0 0 n (some n)) (upd h nx (.c (some el) (nthA (repA zl n .nil)) (n*i.size))) (nx+1):=by
 have hrep:=rep_rl hzl (by omega) hzr n;have hlen:=(repA_len hzl (by omega) n).1;rw[hzs]at hlen hrep;have g:=hr.row (w':={w with heap:=w.heap.push (.cells ((Array.range (n*i.size)).map (z.cells[·% i.size]!)) el)}) (ws:=[]) (t:=el) (fr:=(0,0)) hlen hrep (by rw[List.append_nil,Array.toArray_toList]) (fun i _=>by simp) c;refine⟨.value (.slice (some ⟨w.heap.size,0,none⟩) n n),_,_,_,?_,.inl rfl,⟨_,upd_same _ _ _,Nat.le_refl _,by simp,?_⟩,g⟩
 ·have hzv:∀w,(zeroValue el).run P w=.ok z w:=fun w=>by simp[zeroValue,Sem.run_bind,run_info hi,Result.andThen,hz]
  have hw:IntKind.i64.wrap (Int.ofNat n)=Int.ofNat n:=by
   simp only[IntKind.wrap,IntKind.bits,IntKind.signed];simp;omega
  have hbn:(i.bytes:Int)*(n:Int)≤4398046511104:=by
   have:i.bytes*n≤1073741824*4096:=Nat.mul_le_mul hb hn;have:((i.bytes*n:Nat):Int)≤4398046511104:=by omega
   simpa using this
  have hbig:(decide (Int.ofNat n<0)||decide ((i.bytes:Int)*Int.ofNat n>2 ^ 48))=false:=by
   have h48:(2:Int) ^ 48=281474976710656:=by decide
   simp[h48];omega
  simp only[execOp,ho,Instr.makeSlice,Sem.run_bind,run_und ht,Result.andThen,hx.int.1,hy.int.1,asInt,asIntOf,Sem.run_pure,Go.sizeOf,run_info hi,hw,hbig];have hc:(false||decide (Int.ofNat n<0)||decide (Int.ofNat n>Int.ofNat n))=false:=by simp
  rw[if_neg (by simp)];simp only[Sem.run_bind,run_askRoom,Result.andThen,run_info hi,Sem.run_pure,show(Int.ofNat n).toNat=n from rfl];by_cases h0:n*i.size=0
  ·rw[if_pos h0];simp only[Sem.run_bind,Sem.run_pure,Result.andThen];have e0:(Array.map (fun x=>(#[]:Array Value)[x % (#[]:Array Value).size]!) (Array.range (n*i.size)))=((Array.range (n*i.size)).map (z.cells[·% i.size]!)):=by rw[h0];apply Array.toList_inj.1;simp
   rw[e0];rfl
  ·rw[if_neg h0];simp only[Sem.run_bind,Sem.run_pure,Result.andThen,hzv,hzs];rfl
 ·show [Value.slice _ _ _]=[Value.slice _ _ n];simp
theorem by_rl(l n:Nat):RL ι (bytesA n l) ((bsOf l n).data.toList.map fun b=>Value.int .u8 b.toNat)∧lenL' (bytesA n l)=some l:=by
 rw[bsOf_list];show RL ι (bytesA n l) ((bl l n).map _)∧_;induction l generalizing n with
 |zero=>exact⟨rfl,rfl⟩
 |succ l ih=>
  rw[bl_succ];obtain⟨a,b⟩:=ih (n / 256);refine⟨⟨_,_,rfl,?_,a⟩,?_⟩
  ·refine⟨?_,wrap_u8 (Nat.mod_lt _ (by omega))⟩;simp;rfl
  ·show(lenL' (bytesA (n.div 256) l)).map _=_;rw[show n.div 256=n / 256 from rfl,b];rfl
theorem wr_s2b{s d e:TypeId}{x:Operand}(ho:o.op=.convert s d x)(hr:Rel ι h nx w)(hs:P.underlying s=some .string)(hd:P.underlying d=some (.slice e))(he:P.underlying e=some (.int .u8)){l n:Nat}(hx:RV ι (.s l n) (ev x)):
 Wr P ι h w ev o (.sl nx 1 0 0 l none) (upd h nx (.c (some e) (nthA (bytesA n l)) l)) (nx+1):=by
 obtain⟨b1,b2⟩:=by_rl (ι:=ι) l n;obtain⟨cap,hcap⟩:∃cap,cap=Question.cut (.appendCap l 0 e) (w.tape w.drawn (.appendCap l 0 e)):=⟨_,rfl⟩;have hge:l≤cap:=by rw[hcap];simp only[Question.cut];omega
 have hsz:(((bsOf l n).data.toList.map fun b=>Value.int .u8 b.toNat)++List.replicate (cap-l) (Value.int .u8 0)).length=cap:=by
  have:(bsOf l n).data.size=l:=bsOf_size l n;rw[List.length_append,List.length_map,Array.length_toList,this,List.length_replicate];omega
 have g:=hr.row (w':={w with drawn:=w.drawn+1,heap:=w.heap.push (.cells (((bsOf l n).data.toList.map fun b=>Value.int .u8 b.toNat)++List.replicate (cap-l) (Value.int .u8 0)).toArray e (cap,cap+1))}) (ws:=List.replicate (cap-l) (Value.int .u8 0)) (t:=e) (fr:=(cap,cap+1)) b2 b1 rfl (fun i hi=>by simp at hi ⊢;omega) cap;refine⟨.value (.slice (some ⟨w.heap.size,0,none⟩) l cap),_,_,_,?_,.inl rfl,⟨_,upd_same _ _ _,?_,fun _=>⟨?_,Nat.zero_le _⟩,?_⟩,g⟩
 ·have e1:grownCap w (bsOf l n).size 0 e=cap:=by rw[bsOf_size,hcap];rfl
  have e2:bytesRow (bsOf l n) cap=(((bsOf l n).data.toList.map fun b=>Value.int .u8 b.toNat)++List.replicate (cap-l) (Value.int .u8 0)).toArray:=by
   unfold bytesRow;rw[bsOf_size];apply Array.toList_inj.1;simp
  have e3:=run_bytes_of_string (P:=P) w s d e (bsOf l n) hs hd he;have e4:(((bsOf l n).data.toList.map fun b=>Value.int .u8 b.toNat)++List.replicate (cap-l) (Value.int .u8 0)).toArray.size=cap:=by rw[List.size_toArray,hsz]
  rw[e1,e2,e4]at e3;have e5:(bsOf l n).size=l:=bsOf_size l n;rw[e5]at e3;simp only[execOp,ho,Sem.run_bind,hx.str,e3,Result.andThen];rfl
 ·show l≤cap-0;omega
 ·show cap*1=l+_;simp;omega
 ·show [Value.slice _ _ _]=[Value.slice _ _ (cap-0)];simp
end Go.Proofs.YtglihimiidiacaaGreatDoor.Ev8
namespace Go.Proofs.YtglihimiidiacaaGreatDoor.Ev8
open Go
variable {τ τ':Option TypeId} {P:Program} {ι:Io} {h:Hp} {nx:Nat} {w:World} {ev:Operand→Value} {ρ:Operand→AV} {o:Oper}
theorem rd_sla{t el:TypeId}{x:Operand}{lo hi:Option Operand}(ho:o.op=.slice t x lo hi none){len e:Nat}(ht:P.underlying t=some (.array len el))(hz:∀w,(Go.sizeOf el).run P w=.ok e w)
 {b q:Nat} (hq:q % e=0) (hx:RV ι (.ptr b q) (ev x)) {l hh:Nat} (hlo:oN ev lo 0 l) (hhi:oN ev hi len hh) {a:AV} (hs:sliceV b e (q / e) (q / e) len (some len) l hh none=some a):Rd P ι w ev o a:=by
 obtain⟨E,hE,hv⟩:=hx.ptr;have hqe:q / e*e=q:=by have:=Nat.div_add_mod q e;rw[hq]at this;rw[Nat.mul_comm];omega
 have hx':RV ι (.sl b e (q / e) (q / e) len (some len)) (.slice (some ⟨E.b,E.d+q,none⟩) len len):=by
  refine⟨E,hE,Nat.le_refl _,fun h=>(by cases h),?_⟩;rw[ite_self,hqe];rfl
 obtain⟨E',C,h1,h2,h3,h4,h5,h6,h7,h8⟩:=sl_val (full:=false) (m:=0) hx' hs;rw[hE]at h1;cases h1;have hC:C=len:=h2;subst hC;rw[ite_self,hqe]at h8;simp only[Bool.false_eq_true,if_false]at h8;refine⟨_,?_,h8⟩;have hb:(Instr.sliceBounds false C C (lo.map ev) (hi.map ev) none).run P w=.ok (l,hh,C) w:=run_bnds (mx:=none) hlo hhi (.inl ⟨rfl,rfl⟩) (by simp) h4 h5 (Nat.le_refl _);have e1:(Instr.sliceAt t (ev x) (lo.map ev) (hi.map ev) none).run P w=.ok (.slice (some (if C=l then ⟨E.b,E.d+q,none⟩ else ⟨E.b,E.d+q+l*e,none⟩)) (hh-l) (C-l)) w:=by
  rw[hv];simp only[Instr.sliceAt,Instr.slice,Instr.sureAddr,Sem.run_bind,run_und ht,Result.andThen,asAddr,Sem.run_pure,hb,hz,Addr_add]
 simp only[execOp,ho,Sem.run_bind,e1,Result.andThen,Option.map_none];rfl
theorem str_rl:∀{l:AV} {r:Nat} {ws:List Value},strOf l=some r→RL ι l ws→ws=(bl ws.length r).map fun b=>Value.int .u8 (b.toNat:Int):=by
 intro l;induction l with
 |nil=>intro r ws h hr;cases hr;rfl
 |cons x l _ ih=>
  intro r ws h hr;obtain⟨v,us,rfl,h1,h2⟩:=hr;simp only[strOf]at h;cases hb:byN x with
  |none=>rw[hb]at h;cases h
  |some m=>
   rw[hb]at h;cases ht:strOf l with
   |none=>rw[ht]at h;cases h
   |some r'=>
    rw[ht]at h;simp only[Option.map_some,Option.some.injEq]at h;have hx:x=.i .u8 (.ofNat m):=by
     unfold byN at hb;split at hb
     ·simp only[Option.some.injEq]at hb;subst hb;rfl
     ·cases hb
    subst hx;obtain⟨h3,h4⟩:=RV.int h1;have hm:m<256:=by
     simp only[IntKind.wrap,IntKind.bits,IntKind.signed]at h4;simp at h4;omega
    subst h3;have hr1:r % 256=m:=by rw[←h];simp only[Nat.add_eq,Nat.mul_eq];omega
    have hr2:r / 256=r':=by rw[←h];simp only[Nat.add_eq,Nat.mul_eq];omega
    rw[List.length_cons,bl_succ,List.map_cons,hr1,hr2,←ih ht h2];congr 1
    have:(UInt8.ofNat m).toNat=m:=by simp;omega
    rw[this];rfl
 |_=>intro r ws h;cases h
theorem rd_cvb{s d e:TypeId}{x:Operand}(ho:o.op=.convert s d x)(hr:Rel ι h nx w)(hs:P.underlying s=some (.slice e))(he:P.underlying e=some (.int .u8))(hd:P.underlying d=some .string){b q k n:Nat}{c:Option Nat}
 (hx:RV ι (.sl b 1 q k n c) (ev x)) {cs:Nat→AV} {nb r:Nat} (hb:h b=.c τ cs nb) (hq:q+n≤nb) (hst:strOf (mkL ((List.range' q n).map cs))=some r):Rd P ι w ev o (.s n r):=by
 obtain⟨A,C,hv,new,h1,h2⟩:=src_sl (P:=P) (m:=n) hx hr hb (Nat.le_refl _) (by omega);rw[Nat.mul_one,Nat.mul_one]at h2;have h3:=str_rl hst h2;have hl:new.toList.length=n:=by
  have:=RL.len (n:=n) (by rw[lenL_mkL];simp) h2;exact this.1
 have h4:(loadCells A n).run P w=.ok (((bl n r).map fun b=>(b.toNat:Int)).map (Value.int .u8)).toArray w:=by
  have:=h1 w rfl;rw[hv]at this;simp only[Builtin.firstCells,Nat.mul_one]at this;rw[this];rw[hl]at h3;congr 1
  apply Array.toList_inj.1;rw[h3,List.map_map];rfl
 refine⟨.string (bsOf n r),?_,rfl⟩;have h5:=run_bytesToString w A n C _ h4;rw[foldl_push_byteCells]at h5;have h6:(convert s d (ev x)).run P w=.ok (.string (bsOf n r)) w:=by
  rw[hv,run_convert_bytes_string w s d e (some A) n C hs he hd,h5];congr 2
  show(⟨#[]++(bl n r).toArray⟩:ByteArray)=_;rw[Array.empty_append];rfl
 simp only[execOp,ho,Sem.run_bind,h6,Result.andThen];rfl
end Go.Proofs.YtglihimiidiacaaGreatDoor.Ev8
namespace Go.Proofs.YtglihimiidiacaaGreatDoor.Ev8
open Go
variable {P:Program} {ι:Io} {h:Hp} {nx:Nat} {w:World} {ev:Operand→Value} {ρ:Operand→AV} {o:Oper}
theorem ba_beq(a b:ByteArray):(a==b)=(a.data==b.data):=by cases a;cases b;rfl
theorem ba_self(a:ByteArray):(a==a)=true:=by rw[ba_beq];simp
theorem ba_eq{a b:ByteArray}(h:(a==b)=true):a=b:=by rw[ba_beq]at h;cases a;cases b;congr 1;exact eq_of_beq h
theorem find_map{l n:Nat}(hn:n<256 ^ l):∀(es:List (Nat×Nat×AV)) (ms:List MapEntry) (j:Nat),ms.length=es.length→
 (∀(i:Nat) (q:Nat×Nat×AV),es[i]?=some q→∃e:MapEntry,ms[i]?=some e∧e.key=Value.string (bsOf q.1 q.2.1)∧q.2.1<256 ^ q.1∧RV ι q.2.2 e.val)→
 (findM l n es=none→Instr.findNow .string (.string (bsOf l n)) ms j=some none)∧∀a,findM l n es=some a→∃i v,Instr.findNow .string (.string (bsOf l n)) ms j=some (some (i,v))∧RV ι a v
 |[],[],j,_,_=>⟨fun _=>rfl,fun a h=>by cases h⟩
 |q::es,e::ms,j,hl,hc=>by
  obtain⟨e',h1,h2,h3,h4⟩:=hc 0 q rfl;simp only[List.getElem?_cons_zero,Option.some.injEq]at h1;subst h1;have ih:=find_map hn es ms (j+1) (by simpa using hl) fun i q hq=>by simpa using hc (i+1) q (by simpa using hq)
  have hs:Instr.sameNow .string (.string (bsOf l n)) e.key=some (Nat.beq q.1 l && Nat.beq q.2.1 n):=by
   rw[h2];simp only[Instr.sameNow,Option.some.injEq];cases hb:(Nat.beq q.1 l && Nat.beq q.2.1 n) with
   |true=>
    simp only[Bool.and_eq_true,Nat.beq_eq]at hb;rw[hb.1,hb.2];exact ba_self _
   |false=>
    cases hq:(bsOf l n==bsOf q.1 q.2.1) with
    |false=>rfl
    |true=>
     obtain⟨a,b⟩:=bsOf_inj hn h3 (ba_eq hq);rw[←a,←b]at hb;simp at hb
  simp only[findM,Instr.findNow,hs];cases hb:(Nat.beq q.1 l && Nat.beq q.2.1 n) with
  |true=>exact⟨fun h=>by simp at h,fun a ha=>⟨j,e.val,rfl,by simp only[cond_true,Option.some.injEq]at ha;subst ha;exact h4⟩⟩
  |false=>exact ih
theorem run_checkKey{t:TypeId}(ht:P.underlying t=some .string)(b:Bool)(k:Nat)(s:ByteArray)(w:World):(Instr.checkKey b (k+1) t (.string s)).run P w=.ok () w:=by
 simp only[Instr.checkKey,Sem.run_bind,run_und ht,Result.andThen,Sem.run_pure]
theorem rd_lkp{t key el:TypeId}{x y:Operand}{ok:Bool}(ho:o.op=.lookup t x y ok)(hr:Rel ι h nx w)(ht:P.underlying t=some (.map key el))(hk:P.underlying key=some .string){z:AV}(hz:∃v,(∀w,(zeroValue el).run P w=.ok v w)∧RV ι z v)
 {b l n:Nat} (hx:RV ι (.r 0 b) (ev x)) (hy:RV ι (.s l n) (ev y)) {es:List (Nat×Nat×AV)} (hb:h b=.m es) (hn:n<256 ^ l):
 Rd P ι w ev o (if ok then .k 1 0 (.cons ((findM l n es).getD z) (.cons (.b (findM l n es).isSome) .nil)) else (findM l n es).getD z):=by
 obtain⟨E,hE,hB⟩:=hr.blk b (by rw[hb];rfl);rw[hb]at hB;obtain⟨ms,k,h1,h2,h3⟩:=hB;obtain⟨E',hE',hv⟩:=hx;rw[hE]at hE';cases hE';simp only[opv,Option.some.injEq,List.cons.injEq,and_true,exists_eq_left']at hv;obtain⟨zv,hz1,hz2⟩:=hz;obtain⟨f1,f2⟩:=find_map (ι:=ι) hn es ms.toList 0 h2 (fun i q hq=>by simpa using h3 i q hq);have hg:(getObj E.b).run P w=.ok (.map ms k) w:=by simp[getObj,Sem.run,h1]
 obtain⟨v,hf,hR⟩:∃v,((Instr.findKey key (.string (bsOf l n)) ms.toList).bind fun|some (_,v)=>pure (v,true)|none=>do pure (←zeroValue el,false)).run P w=.ok (v,(findM l n es).isSome) w∧RV ι ((findM l n es).getD z) v:=by
  cases hf:findM l n es with
  |none=>
   refine⟨zv,?_,hz2⟩;have:(Instr.findKey key (.string (bsOf l n)) ms.toList).run P w=.ok none w:=by simp only[Instr.findKey,Sem.run_bind,run_und hk,Result.andThen,f1 hf,Sem.run_pure]
   show(Instr.findKey key (.string (bsOf l n)) ms.toList>>=_).run P w=_;simp only[Sem.run_bind,this,Result.andThen,hz1,Sem.run_pure];rfl
  |some a=>
   obtain⟨i,v,g1,g2⟩:=f2 a hf;refine⟨v,?_,g2⟩;have:(Instr.findKey key (.string (bsOf l n)) ms.toList).run P w=.ok (some (i,v)) w:=by simp only[Instr.findKey,Sem.run_bind,run_und hk,Result.andThen,g1,Sem.run_pure]
   show(Instr.findKey key (.string (bsOf l n)) ms.toList>>=_).run P w=_;simp only[Sem.run_bind,this,Result.andThen,Sem.run_pure];rfl
 have he:(Instr.lookup t (ev x) (ev y) ok).run P w=.ok (if ok then .tuple #[v,.bool (findM l n es).isSome] else v) w:=by
  rw[hv,hy.str];simp only[Instr.lookup,Sem.run_bind,run_und ht,Result.andThen,hg,Sem.run_pure,run_checkKey hk];have hf':(Instr.findKey key (.string (bsOf l n)) ms.toList>>=fun|some (_,v)=>pure (v,true)|none=>do pure (←zeroValue el,false)).run P w=.ok (v,(findM l n es).isSome) w:=hf;simp only[Sem.run_bind]at hf';revert hf';cases hq:(Instr.findKey key (.string (bsOf l n)) ms.toList).run P w with
  |ok r w'=>
   simp only[Result.andThen];intro hf';cases r with
   |none=>
    simp only[Sem.run_bind,Result.andThen]at hf' ⊢;rw[hz1]at hf' ⊢;simp only[Sem.run_pure,Result.ok.injEq,Prod.mk.injEq]at hf' ⊢;obtain⟨⟨a,b⟩,c⟩:=hf';rw[a,←b,c];simp
   |some p=>
    simp only[Sem.run_pure,Result.ok.injEq,Prod.mk.injEq]at hf' ⊢;obtain⟨⟨a,b⟩,c⟩:=hf';rw[a,←b,c];simp
  |_=>intro hf';cases hf'
 refine⟨if ok then .tuple #[v,.bool (findM l n es).isSome] else v,?_,?_⟩
 ·simp only[execOp,ho,Sem.run_bind,he,Result.andThen];rfl
 ·cases ok with
  |false=>exact hR
  |true=>exact⟨[v,.bool (findM l n es).isSome],⟨v,_,rfl,hR,⟨_,[],rfl,rfl,rfl⟩⟩,rfl⟩
end Go.Proofs.YtglihimiidiacaaGreatDoor.Ev8
namespace Go.Proofs.YtglihimiidiacaaGreatDoor.Ev8
open Go
variable {P:Program} {ι:Io} {h:Hp} {nx:Nat} {w:World} {ev:Operand→Value} {ρ:Operand→AV} {o:Oper}
theorem wr_mup{t key el:TypeId}{m y x:Operand}(ho:o.op=.mapUpdate t m y x)(hr:Rel ι h nx w)(ht:P.underlying t=some (.map key el))(hk:P.underlying key=some .string){b l n:Nat}{a:AV}(hm:RV ι (.r 0 b) (ev m))(hy:RV ι (.s l n) (ev y))
 (hx:RV ι a (ev x)) {es:List (Nat×Nat×AV)} (hb:h b=.m es) (hn:n<256 ^ l) (hf:findM l n es=none):Wr P ι h w ev o (.v undef) (upd h b (.m (es++[(l,n,a)]))) nx:=by
 have hd:dead (h b)=false:=by rw[hb];rfl
 obtain⟨E,hE,hB⟩:=hr.blk b hd;rw[hb]at hB;obtain⟨ms,k,h1,h2,h3⟩:=hB;obtain⟨E',hE',hv⟩:=hm;rw[hE]at hE';cases hE';simp only[opv,Option.some.injEq,List.cons.injEq,and_true,exists_eq_left']at hv;obtain⟨f1,-⟩:=find_map (ι:=ι) hn es ms.toList 0 h2 (fun i q hq=>by simpa using h3 i q hq);have hin:=hr.inn b E hE;have hg:(getObj E.b).run P w=.ok (.map ms k) w:=by simp[getObj,Sem.run,h1]
 have hfk:(Instr.findKey key (.string (bsOf l n)) ms.toList).run P w=.ok none w:=by simp only[Instr.findKey,Sem.run_bind,run_und hk,Result.andThen,f1 hf,Sem.run_pure]
 have hso:∀ob,(setObj E.b ob).run P w=.ok () {w with heap:=w.heap.setIfInBounds E.b ob}:=fun ob=>by
  simp[setObj,Sem.run,h1]
 refine⟨.skip,{w with heap:=w.heap.setIfInBounds E.b (.map (ms.push {key:=.string (bsOf l n),val:=ev x,born:=k}) (k+1))},ι,undef,?_,.inr ⟨rfl,rfl⟩,rfl,?_⟩
 ·have:(Instr.mapUpdate t (ev m) (ev y) (ev x)).run P w=.ok () {w with heap:=w.heap.setIfInBounds E.b (.map (ms.push {key:=.string (bsOf l n),val:=ev x,born:=k}) (k+1))}:=by
   rw[hv,hy.str];simp only[Instr.mapUpdate,Sem.run_bind,run_und ht,Result.andThen,hg,run_checkKey hk,hfk,hso]
  simp only[execOp,ho,Sem.run_bind,this,Result.andThen];rfl
 ·refine Go1.turn hr hE hd (by simp) (fun B hB=>by simp[Ne.symm hB]) ?_ (fun _ arr t fr e=>by rw[h1]at e;cases e);refine⟨ms.push {key:=.string (bsOf l n),val:=ev x,born:=k},k+1,by simp[hin],by simpa using h2,fun i q hq=>?_⟩;have hl:ms.size=es.length:=by simpa using h2
  by_cases hi:i<es.length
  ·rw[List.getElem?_append_left hi]at hq;obtain⟨e,g1,g2⟩:=h3 i q hq;refine⟨e,?_,g2⟩;rw[Array.getElem?_push_lt (by omega)];rw[Array.getElem?_eq_getElem (by omega)]at g1;exact g1
  ·rw[List.getElem?_append_right (by omega)]at hq;have hi0:i=es.length:=by
    have:=(List.getElem?_eq_some_iff.1 hq).1;simp at this;omega
   subst hi0;simp at hq;subst hq;exact⟨{key:=.string (bsOf l n),val:=ev x,born:=k},by rw[←hl];exact Array.getElem?_push_size,rfl,hn,hx⟩
theorem src_str{l n m:Nat}{x:Value}(hx:RV ι (.s l n) x)(hm:m≤l):∃new:Array Value,(∀w',(Builtin.firstCells 1 m x).run P w'=.ok new w')∧RL ι (bytesA n m) new.toList∧lenL' (bytesA n m)=some m:=by
 refine⟨((bsOf m n).data.map fun b=>.int .u8 b.toNat),fun w'=>?_,?_,(by_rl (ι:=ι) m n).2⟩
 ·rw[hx.str];simp only[Builtin.firstCells,Sem.run_pure];have:(bsOf l n).extract 0 m=bsOf m n:=by
   apply ByteArray.ext;apply Array.toList_inj.1;have h1:((bsOf l n).extract 0 m).data.toList=(bsOf l n).data.toList.take m:=by
    rw[ByteArray.data_extract];simp
   rw[h1,bsOf_list,bsOf_list,←List.map_take,List.take_range,Nat.min_eq_left hm]
  rw[this]
 ·have:=(by_rl (ι:=ι) m n).1;simpa using this
end Go.Proofs.YtglihimiidiacaaGreatDoor.Ev8
namespace Go.Proofs.YtglihimiidiacaaGreatDoor.Ev8
open Go
variable {τ τ':Option TypeId} {P:Program} {ι:Io} {h:Hp} {nx:Nat} {w:World} {ev:Operand→Value} {ρ:Operand→AV} {o:Oper}
theorem wr_cpy{args:Array Operand}{ts:Array TypeId}{x y:Operand}(ho:o.op=.call {callee:=.builtin .copy,args:=args,argTypes:=ts})(ha:args=#[x,y]){t el:TypeId}(ht:ts[0]?=some t)(hu:P.underlying t=some (.slice el)){e:Nat}(hz:∀w,(Go.sizeOf el).run P w=.ok e w)(hr:Rel ι h nx w)
 {b q k n L:Nat} {c:Option Nat} (hx:RV ι (.sl b e q k n c) (ev x)) {cs cs':Nat→AV} {nb:Nat} (hbk:h b=.c τ cs nb) (hl:∀w,(Builtin.lenOf (ev y)).run P w=.ok L w) {m:Nat} (hm:m=Nat.min L n) (hm9:m<9223372036854775808) {new:Array Value}
 (hn1:(Builtin.firstCells e m (ev y)).run P w=.ok new w) {l:AV} (hL:lenL' l=some (m*e)) (hR:RL ι l new.toList) (hs:stS cs (q*e) l=some cs') (hq:q*e+m*e≤nb):
 Wr P ι h w ev o (.i .i64 (.ofNat m)) (upd h b (.c τ cs' nb)) nx:=by
 obtain⟨E,hE,h1,h2,hv⟩:=hx.sl;have hlen:=(RL.len hL hR).1;obtain⟨w',r1,g⟩:=run_stS (P:=P) (nx:=nx) (i:=0) (D:=q*e) hs hR hr hbk (by rw[hlen];omega) hE;have hw:IntKind.i64.wrap (Int.ofNat m)=Int.ofNat m:=by
  simp only[IntKind.wrap,IntKind.bits,IntKind.signed];simp;omega
 refine⟨.value (goInt m),w',ι,_,?_,.inl rfl,⟨?_,hw⟩,g⟩
 ·subst ha;have hst:(storeCells (⟨E.b,E.d+(if capOf E q c=0 then k else q)*e,none⟩:Addr) new.toList).run P w=.ok () w':=by
   by_cases h0:capOf E q c=0
   ·have hm0:m=0:=by
     have:m≤n:=by rw[hm];exact Nat.min_le_right _ _
     omega
    subst hm0;have:new.toList=[]:=List.length_eq_zero_iff.1 (by rw[hlen];omega);rw[this]at r1 ⊢;exact r1
   ·rw[if_neg h0];exact r1
  have hc:(Builtin.copy_ ts o.type #[ev x,ev y]).run P w=.ok (goInt m) w':=by
   rw[hv];simp only[Builtin.copy_,List.getElem?_toArray,List.getElem?_cons_zero,List.getElem?_cons_succ,ht,Sem.run_bind,run_und hu,Result.andThen,hl,hz,←hm,hn1,hst,Sem.run_pure]
  simp only[execOp,ho,resolve,Sem.run_bind,Sem.run_pure,Result.andThen,invoke,builtin];have e1:(#[x,y].map ev)=#[ev x,ev y]:=by simp
  rw[e1,hc]
 ·rfl
end Go.Proofs.YtglihimiidiacaaGreatDoor.Ev8
namespace Go.Proofs.YtglihimiidiacaaGreatDoor.Ev8
open Go
variable {τ τ':Option TypeId} {P:Program} {ι:Io} {h:Hp} {nx:Nat} {w:World} {ev:Operand→Value} {ρ:Operand→AV} {o:Oper}
theorem lies_off{e:TypeId}(hc:P.cellsOf e=1)(count off n:Nat)(hn:off+n≤count):liesAt P P.depth e count off e n=true:=by
 have hd:P.depth=(2*(P.types.size+Made.depth)+1)+1:=rfl;rw[hd];simp only[liesAt,Bool.or_eq_true];left
 rw[hd];simp[rowAt,hc,hn,sameLayout,Nat.mod_one]
theorem run_ustr(ts:Array TypeId)(pt ty e:TypeId)(hts:ts[0]?=some pt)(hp:P.underlying pt=some (.pointer e))(hc:P.cellsOf e=1)(g off cells:Nat)(hsh:w.shape? g=some (e,cells))(l:List UInt8)(h0:l≠[])(hn:off+l.length≤cells)(h63:l.length≤9223372036854775807){k:IntKind}
 (hcell:∀j x,l[j]?=some x→w.cell? ((⟨g,off,none⟩:Addr).add j)=some (.int .u8 x.toNat)):
 (Builtin.unsafeString_ ts ty #[.pointer (some ⟨g,off,none⟩),.int k l.length]).run P w=.ok (.string ⟨l.toArray⟩) (w.freeze ⟨g,off,none⟩ l.length):=by
 have hl:l.length≠0:=by simpa using h0
 have hlb:=Go.Lib.run_loadBytes (P:=P) w l ⟨g,off,none⟩ .empty hcell;have hlies:=lies_off (P:=P) hc (cells / P.cellsOf e) off l.length (by rw[hc];simpa using hn);have h63':¬(9223372036854775807:Int)<(l.length:Int):=by omega
 obtain⟨A,B,C,D,hdef⟩:∃(A:Sem Value) (B C:Sem PUnit) (D:Sem Value),Builtin.unsafeString_ ts ty #[.pointer (some ⟨g,off,none⟩),.int k l.length]=(do
  let n ←asInt (.int k l.length)
  let some pt:=ts[0]?|A
  if n<0 then B
  if n>IntKind.i64.max then C
  if n=0 then pure (.string .empty)
  else if ←variablesAt ⟨g,off,none⟩ (←elemOf pt) n.toNat then do
   let s ←loadBytes ⟨g,off,none⟩ .empty n.toNat
   freeze ⟨g,off,none⟩ n.toNat
   pure (.string s)
  else D):=⟨_,_,_,_,rfl⟩
 rw[hdef,hts];have hmax:IntKind.i64.max=9223372036854775807:=rfl;have hneg:¬(l.length:Int)<0:=by omega
 simp[asInt,asIntOf,hmax,h63',hneg,hl,variablesAt,hsh,elemOf,run_underlying hp,hlies,hlb]
theorem wr_us{args:Array Operand}{ts:Array TypeId}{x y:Operand}(ho:o.op=.call {callee:=.builtin .unsafeString,args:=args,argTypes:=ts})(ha:args=#[x,y]){pt e:TypeId}(ht:ts[0]?=some pt)(hp:P.underlying pt=some (.pointer e))(hc1:P.cellsOf e=1)(hr:Rel ι h nx w)
 {b n r:Nat} {k:IntKind} (hx:RV ι (.ptr b 0) (ev x)) (hy:RV ι (.i k (.ofNat n)) (ev y)) {cs:Nat→AV} {nb:Nat} (hbk:h b=.c (some e) cs nb) (hn0:n≠0) (hnb:n≤nb) (h63:n≤9223372036854775807) (hst:strOf (mkL ((List.range' 0 n).map cs))=some r):
 Wr P ι h w ev o (.s n r) (upd h b .no) nx:=by
 have hd:dead (h b)=false:=by rw[hbk];rfl
 obtain⟨E,hE,hv⟩:=hx.ptr;obtain⟨arr,ty,fr,e1,e2,e3,e4,e5⟩:=hr.ent hbk hE;obtain⟨g,hg⟩:∃g:Nat→Value,∀j,j<n→arr[E.d+j]?=some (g j)∧RV ι (cs j) (g j):=
  ⟨fun i=>(arr[E.d+i]?.getD undef),fun j hj=>by obtain⟨v,h1,h2⟩:=e5 j (by omega);simp[h1,h2]⟩
 have hRL:=RL_mkL (ι:=ι) (f:=cs) (g:=g) n 0 fun j hj=>by rw[Nat.zero_add];exact(hg j hj).2
 have hs:=str_rl hst hRL;simp only[List.length_map,List.length_range']at hs;have hll:(bl n r).length=n:=by simp[bl]
 have hcell:∀j x,(bl n r)[j]?=some x→w.cell? ((⟨E.b,E.d,none⟩:Addr).add j)=some (.int .u8 x.toNat):=fun j x hj=>by
  have hjn:j<n:=by have:=(List.getElem?_eq_some_iff.1 hj).1;omega
  have h2:=congrArg (fun l=>l[j]?) hs;simp[List.getElem?_range' hjn,hj]at h2;rw[Addr_add];simp only[World.cell?,e1];simp[(hg j hjn).1,h2]
 have hrun:=run_ustr (P:=P) (w:=w) ts pt o.type e ht hp hc1 E.b E.d arr.size (by simp[World.shape?,e1]) (bl n r) (by intro h;rw[h]at hll;simp at hll;omega) (by rw[hll];omega) (by rw[hll];exact h63) (k:=k) hcell;rw[hll]at hrun;refine⟨.value (.string (bsOf n r)),w.freeze ⟨E.b,E.d,none⟩ n,ι,_,?_,.inl rfl,rfl,?_⟩
 ·subst ha;simp only[execOp,ho,resolve,Sem.run_bind,Sem.run_pure,Result.andThen,invoke,builtin];have e1:(#[x,y].map ev)=#[ev x,ev y]:=by simp
  rw[e1,hv,hy.int.1];show((Builtin.unsafeString_ ts o.type #[.pointer (some ⟨E.b,E.d,none⟩),.int k n]).run P w).andThen _=_;rw[hrun];rfl
 ·refine Go1.turn hr hE hd ?_ (fun B hB=>?_) trivial (fun h=>by cases h) (by unfold World.freeze;split<;>exact⟨rfl,rfl,rfl⟩)
  ·unfold World.freeze;split<;>simp
  ·unfold World.freeze;split
   ·rfl
   ·simp only[Array.getElem?_modify];rw[if_neg (fun h=>hB h.symm)]
theorem rd_mm{args:Array Operand}{ts:Array TypeId}{x y:Operand}{lt:Bool}(ho:o.op=.call {callee:=.builtin (if lt then .max else .min),args:=args,argTypes:=ts})(ha:args=#[x,y]){k k':IntKind}{n m:Int}(hx:RV ι (.i k n) (ev x))(hy:RV ι (.i k' m) (ev y))(hm:k.wrap m=m):
 Rd P ι w ev o (.i k (if Bool.xor (decide (n<m)) lt then n else m)):=by
 subst ha;have e1:(#[x,y].map ev)=#[ev x,ev y]:=by simp
 refine⟨.int k (if Bool.xor (decide (n<m)) lt then n else m),?_,rfl,by split;exact hx.int.2;exact hm⟩;cases lt with
 |false=>
  simp only[Bool.false_eq_true,if_false]at ho;simp only[execOp,ho,resolve,Sem.run_bind,Sem.run_pure,Result.andThen,invoke,builtin];rw[e1,hx.int.1,hy.int.1];by_cases c:n<m
  ·simp[Builtin.min_,Builtin.min2,List.foldlM,go_sem,c];omega
  ·simp[Builtin.min_,Builtin.min2,List.foldlM,go_sem,c];omega
 |true=>
  simp only[if_true]at ho;simp only[execOp,ho,resolve,Sem.run_bind,Sem.run_pure,Result.andThen,invoke,builtin];rw[e1,hx.int.1,hy.int.1];by_cases c:n<m
  ·simp[Builtin.max_,Builtin.max2,List.foldlM,go_sem,c];try omega
  ·simp[Builtin.max_,Builtin.max2,List.foldlM,go_sem,c];try omega
end Go.Proofs.YtglihimiidiacaaGreatDoor.Ev8
namespace Go.Proofs.YtglihimiidiacaaGreatDoor.Ev8
open Go
def put{α:Type}:(d:Nat)→Nat→α→Tr α d→Tr α d
 |0,_,x,_=>x
 |d+1,i,x,t=>
  let t:N4 (Tr α d):=t
  let r:N4 (Tr α d):=if i % 4=0 then ⟨put d (i / 4) x t.a,t.b,t.c,t.d⟩ else if i % 4=1 then ⟨t.a,put d (i / 4) x t.b,t.c,t.d⟩ else if i % 4=2 then ⟨t.a,t.b,put d (i / 4) x t.c,t.d⟩ else ⟨t.a,t.b,t.c,put d (i / 4) x t.d⟩
  r
theorem beq_dec(a b:Nat):Nat.beq a b=decide (a=b):=by
 cases h:Nat.beq a b with
 |true=>simp[Nat.eq_of_beq_eq_true h]
 |false=>simp[Nat.ne_of_beq_eq_false h]
theorem beq_no{a b:Nat}(h:a≠b):Nat.beq a b=false:=by rw[beq_dec];simpa using h
theorem pw_put{α:Type}:∀(d i:Nat) (x:α) (t:Tr α d) (C:Tr α d→Res),(pw α d i).f x t C=C (put d i x t)
 |0,_,x,t,C=>rfl
 |d+1,i,x,t,C=>by
  obtain⟨a,b,c,e⟩:=t;show(bif Nat.beq (i % 4) 0 then _ else bif Nat.beq (i % 4) 1 then _ else bif Nat.beq (i % 4) 2 then _ else _:PW α (d+1)).f x _ C=C (if i % 4=0 then _ else if i % 4=1 then _ else if i % 4=2 then _ else _:N4 (Tr α d));by_cases h0:i % 4=0
  ·rw[if_pos h0,h0];exact pw_put d _ x a _
  ·rw[if_neg h0,beq_no h0];by_cases h1:i % 4=1
   ·rw[if_pos h1,h1];exact pw_put d _ x b _
   ·rw[if_neg h1,beq_no h1];by_cases h2:i % 4=2
    ·rw[if_pos h2,h2];exact pw_put d _ x c _
    ·rw[if_neg h2,beq_no h2];exact pw_put d _ x e _
def sub4{α:Type}{d:Nat}(i:Nat)(t:N4 (Tr α d)):Tr α d:=if i % 4=0 then t.a else if i % 4=1 then t.b else if i % 4=2 then t.c else t.d
theorem get_succ{α:Type}(d i:Nat)(t:N4 (Tr α d)):get (d+1) i (t:Tr α (d+1))=get d (i / 4) (sub4 i t):=by
 show(bif Nat.beq (i % 4) 0 then _ else bif Nat.beq (i % 4) 1 then _ else bif Nat.beq (i % 4) 2 then _ else _:GW α (d+1)).f _=get d (i / 4) (if i % 4=0 then _ else if i % 4=1 then _ else if i % 4=2 then _ else _);by_cases h0:i % 4=0
 ·rw[if_pos h0,h0];rfl
 ·rw[if_neg h0,beq_no h0];by_cases h1:i % 4=1
  ·rw[if_pos h1,h1];rfl
  ·rw[if_neg h1,beq_no h1];by_cases h2:i % 4=2
   ·rw[if_pos h2,h2];rfl
   ·rw[if_neg h2,beq_no h2];rfl
theorem sub4_put{α:Type}(d i j:Nat)(x:α)(t:N4 (Tr α d)):sub4 j (put (d+1) i x (t:Tr α (d+1)):N4 (Tr α d))=if i % 4=j % 4 then put d (i / 4) x (sub4 i t) else sub4 j t:=by
 show sub4 j (if i % 4=0 then _ else if i % 4=1 then _ else if i % 4=2 then _ else _:N4 (Tr α d))=_;unfold sub4;have hi:i % 4<4:=Nat.mod_lt _ (by omega);have hj:j % 4<4:=Nat.mod_lt _ (by omega);generalize i % 4=p at*;generalize j % 4=q at*;match p,q,hi,hj with
 |0,0,_,_|0,1,_,_|0,2,_,_|0,3,_,_|1,0,_,_|1,1,_,_|1,2,_,_|1,3,_,_|2,0,_,_|2,1,_,_|2,2,_,_|2,3,_,_|3,0,_,_|3,1,_,_|3,2,_,_|3,3,_,_=>rfl
theorem get_put{α:Type}:∀(d i:Nat) (x:α) (t:Tr α d),get d i (put d i x t)=x
 |0,_,_,_=>rfl
 |d+1,i,x,t=>by
  have:=sub4_put d i i x t;rw[get_succ,this,if_pos rfl,get_put d]
theorem get_put_ne{α:Type}:∀(d:Nat) {i j:Nat} (x:α) (t:Tr α d),i<4 ^ d→j<4 ^ d→i≠j→get d j (put d i x t)=get d j t
 |0,i,j,x,t,hi,hj,h=>by simp at hi hj;omega
 |d+1,i,j,x,t,hi,hj,h=>by
  have e:=sub4_put d i j x t;rw[get_succ,e,get_succ d j t];by_cases hq:i % 4=j % 4
  ·rw[if_pos hq];have hs:sub4 i (t:N4 (Tr α d))=sub4 j t:=by simp only[sub4,hq]
   rw[hs];exact get_put_ne d x _ (by rw[Nat.pow_succ]at hi;omega) (by rw[Nat.pow_succ]at hj;omega) (by omega)
  ·rw[if_neg hq]
theorem get_e{α:Type}(x:α):∀(d i:Nat),get d i (eTr x d)=x
 |0,_=>rfl
 |d+1,i=>by
  have:(eTr x (d+1):N4 (Tr α d))=⟨eTr x d,eTr x d,eTr x d,eTr x d⟩:=rfl;rw[get_succ d i (eTr x (d+1)),this];have:sub4 i (⟨eTr x d,eTr x d,eTr x d,eTr x d⟩:N4 (Tr α d))=eTr x d:=by simp[sub4]
  rw[this,get_e x d]
end Go.Proofs.YtglihimiidiacaaGreatDoor.Ev8
namespace Go.Proofs.YtglihimiidiacaaGreatDoor.Ev8
open Go
theorem fN_eq(n:Nat)(C:Nat→Res):fN n C=C n:=by cases n<;>rfl
theorem cN_eq(k:IntKind)(n:Nat)(C:AV→Res):cN k n C=C (.i k (.ofNat n)):=by cases n<;>rfl
theorem cI_eq(k:IntKind)(n:Int)(C:AV→Res):cI k n C=C (.i k n):=by
 cases n with
 |ofNat n=>exact cN_eq k n C
 |negSucc n=>exact fN_eq n fun n=>C (.i k (.negSucc n))
theorem cB_eq(x:Bool)(C:AV→Res):cB x C=C (.b x):=by cases x<;>rfl
theorem iB_t(a b:Res):iB true a b=a:=rfl
theorem iB_f(a b:Res):iB false a b=b:=rfl
theorem fV_eq(a:AV)(C:AV→Res)(h:a≠.un):fV a C=C a:=by
 cases a with
 |un=>exact absurd rfl h
 |s l n=>exact(fN_eq l fun l=>fN n fun n=>C (.s l n)).trans (fN_eq n fun n=>C (.s l n))
 |b x=>exact cB_eq x C
 |i k n=>exact cI_eq k n C
 |_=>rfl
noncomputable def tget(n:Nat)(tm:TM):AV:=(tw n).g tm
def tput(n:Nat)(x:AV)(tm:TM):TM:=match n with
 |0=>⟨x,tm.a1,tm.a2,tm.a3,tm.a4,tm.a5,tm.a6,tm.a7,tm.y⟩
 |1=>⟨tm.a0,x,tm.a2,tm.a3,tm.a4,tm.a5,tm.a6,tm.a7,tm.y⟩
 |2=>⟨tm.a0,tm.a1,x,tm.a3,tm.a4,tm.a5,tm.a6,tm.a7,tm.y⟩
 |3=>⟨tm.a0,tm.a1,tm.a2,x,tm.a4,tm.a5,tm.a6,tm.a7,tm.y⟩
 |4=>⟨tm.a0,tm.a1,tm.a2,tm.a3,x,tm.a5,tm.a6,tm.a7,tm.y⟩
 |5=>⟨tm.a0,tm.a1,tm.a2,tm.a3,tm.a4,x,tm.a6,tm.a7,tm.y⟩
 |6=>⟨tm.a0,tm.a1,tm.a2,tm.a3,tm.a4,tm.a5,x,tm.a7,tm.y⟩
 |7=>⟨tm.a0,tm.a1,tm.a2,tm.a3,tm.a4,tm.a5,tm.a6,x,tm.y⟩
 |n+8=>⟨tm.a0,tm.a1,tm.a2,tm.a3,tm.a4,tm.a5,tm.a6,tm.a7,put 3 n x tm.y⟩
theorem tw_put(n:Nat)(x:AV)(tm:TM)(C:TM→Res):(tw n).p x tm C=C (tput n x tm):=by
 match n with
 |0|1|2|3|4|5|6|7=>rfl
 |n+8=>exact pw_put 3 n x tm.y _
theorem tget_tput(n:Nat)(x:AV)(tm:TM):tget n (tput n x tm)=x:=by
 match n with
 |0|1|2|3|4|5|6|7=>rfl
 |n+8=>exact get_put 3 n x tm.y
theorem tget_ne{n m:Nat}(x:AV)(tm:TM)(hn:n<72)(hm:m<72)(h:n≠m):tget m (tput n x tm)=tget m tm:=by
 match n,m with
 |n+8,m+8=>exact get_put_ne 3 x tm.y (by omega) (by omega) (by omega)
 |n+8,0|n+8,1|n+8,2|n+8,3|n+8,4|n+8,5|n+8,6|n+8,7=>rfl
 |0,m|1,m|2,m|3,m|4,m|5,m|6,m|7,m=>
  match m with
  |0|1|2|3|4|5|6|7=>first|rfl|exact absurd rfl h
  |m+8=>rfl
noncomputable def vw(d:Nat)(cs:Tr AV d):Nat→AV:=fun i=>if i<4 ^ d then get d i cs else .un
theorem vw_put(d o:Nat)(x:AV)(cs:Tr AV d)(ho:o<4 ^ d):vw d (put d o x cs)=upd (vw d cs) o x:=by
 funext i
 simp only[vw,upd];by_cases e:i=o
 ·subst e;rw[if_pos ho,if_pos rfl,get_put]
 ·rw[if_neg e];by_cases hi:i<4 ^ d
  ·rw[if_pos hi,if_pos hi,get_put_ne d x cs ho hi (Ne.symm e)]
  ·rw[if_neg hi,if_neg hi]
theorem ldN_eq(d:Nat)(cs:Tr AV d):∀(n o:Nat) (C:AV→Res),o+n≤4 ^ d→ldN d cs n o C=C (mkL ((List.range' o n).map (vw d cs)))
 |0,o,C,_=>rfl
 |n+1,o,C,h=>by
  show ldN d cs n (Nat.succ o) (fun l=>C (.cons ((gw AV d o).f cs) l))=_;rw[ldN_eq d cs n (Nat.succ o) _ (by simp only[Nat.succ_eq_add_one];omega)];rw[List.range'_succ,List.map_cons];show C (.cons _ _)=C (.cons _ _);congr 2
  simp only[vw];rw[if_pos (by omega)];rfl
theorem stN_eq(d:Nat):∀(l:AV) (o:Nat) (cs:Tr AV d) (C:Tr AV d→Nat→Res) (m:Nat),lenL' l=some m→o+m≤4 ^ d→∃cs',stN d l o cs C=C cs' (o+m)∧(oneL l=true→stS (vw d cs) o l=some (vw d cs')):=by
 intro l;induction l with
 |nil=>intro o cs C m h _;simp only[lenL',Option.some.injEq]at h;subst h;exact⟨cs,rfl,fun _=>rfl⟩
 |cons x l _ ih=>
  intro o cs C m h hm;simp only[lenL']at h;cases hq:lenL' l with
  |none=>rw[hq]at h;cases h
  |some m'=>
   rw[hq]at h;simp only[Option.map_some,Option.some.injEq]at h;subst h;obtain⟨cs',e1,e2⟩:=ih (Nat.succ o) (put d o x cs) C m' hq (by simp only[Nat.succ_eq_add_one];omega);refine⟨cs',?_,fun h1=>?_⟩
   ·show(pw AV d o).f x cs (fun cs=>stN d l (Nat.succ o) cs C)=_;rw[pw_put,e1];congr 1;simp only[Nat.succ_eq_add_one];omega
   ·simp only[oneL,Bool.and_eq_true]at h1;have:=e2 h1.2;rw[vw_put d o x cs (by omega)]at this;simp only[stS,h1.1];exact this
 |_=>intro o cs C m h;simp[lenL']at h
end Go.Proofs.YtglihimiidiacaaGreatDoor.Ev8
namespace Go.Proofs.YtglihimiidiacaaGreatDoor.Ev8
open Go
variable {τ τ':Option TypeId} {P:Program} {ι:Io}
noncomputable def tv(vs:List Nat)(tm:TM):Te:=fun t=>match pos t vs 0 with|some n=>tget n tm|none=>.un
noncomputable def hv:Blk→SB
 |.no=>.no
 |.lp fd tm ps ac bd pend=>.lp fd (tv fd.vs tm) ps ac bd pend
 |.m es=>.m es
 |.s q cs n=>.c q (vw 2 cs) n
 |.c q cs n=>.c q (vw 6 cs) n
 |.o a=>.o a
noncomputable def hp(h:Tr Blk 7):Hp:=fun b=>if b<16384 then hv (get 7 b h) else .no
theorem hp_put{b:Nat}(B:Blk)(h:Tr Blk 7)(hb:b<16384):hp (put 7 b B h)=upd (hp h) b (hv B):=by
 funext i
 simp only[hp,upd];by_cases e:i=b
 ·subst e;rw[if_pos hb,if_pos rfl,get_put]
 ·rw[if_neg e];by_cases hi:i<16384
  ·rw[if_pos hi,if_pos hi,get_put_ne 7 B h (by simpa using hb) (by simpa using hi) (Ne.symm e)]
  ·rw[if_neg hi,if_neg hi]
def bOk:Blk→Prop
 |.s _ _ n=>n≤16
 |.c _ _ n=>n≤4096
 |.lp fd _ _ _ _ _=>fd.vs.length≤72
 |_=>True
def GOk(ι:Io):Prop:=∀g,g<gG→∃E,ι g=some E∧E.b=g∧E.d=0∧E.r=gR g
theorem GOk.le{ι ι':Io}(h:GOk ι)(hl:Le ι ι'):GOk ι':=fun g hg=>by obtain⟨E,h1,h2⟩:=h g hg;exact⟨E,hl g E h1,h2⟩
def Snt(ι:Io)(h:Hp)(w:World):Prop:=∃L,fixOk L∧∀q∈L,w.heap[q.1]?=some (.cells q.2.1 q.2.2.1 q.2.2.2)∧¬Own ι h q.1
theorem Snt.mk'{ι ι':Io}{h h':Hp}{w w':World}(s:Snt ι h w)(k:∀B arr t fr,w.heap[B]?=some (.cells arr t fr)→¬Own ι h B→w'.heap[B]?=some (.cells arr t fr)∧¬Own ι' h' B):Snt ι' h' w':=by
 obtain⟨L,h1,h2⟩:=s;exact⟨L,h1,fun q hq=>k _ _ _ _ (h2 q hq).1 (h2 q hq).2⟩
theorem get_lt{w:World}{B:Nat}{o:Obj}(h:w.heap[B]?=some o):B<w.heap.size:=(Array.getElem?_eq_some_iff.1 h).1
theorem Snt.go{ι ι':Io}{h h':Hp}{w w':World}{nx':Nat}(s:Snt ι h w)(g:Go1 ι h w ι' h' nx' w'):Snt ι' h' w':=
 s.mk' fun B _ _ _ e n=>⟨(g.keep B (get_lt e) n).trans e,fun o=>(g.own B o).elim n fun q=>by have:=get_lt e;omega⟩
theorem Snt.kill{ι:Io}{h:Hp}{w:World}(s:Snt ι h w)(b:Nat):Snt ι (upd h b .no) w:=
 s.mk' fun B _ _ _ e n=>⟨e,fun⟨b',E,d,x,y⟩=>n ⟨b',E,by
  by_cases q:b'=b
  ·subst q;rw[upd_same]at d;cases d
  ·rwa[upd_ne _ q]at d,x,y⟩⟩
theorem Snt.other{ι:Io}{h:Hp}{w w':World}(s:Snt ι h w){B:Nat}(hk:∀B',B'≠B→w'.heap[B']?=w.heap[B']?)(hx:∀arr t fr,w.heap[B]?≠some (.cells arr t fr)):Snt ι h w':=
 s.mk' fun B' arr t fr e n=>⟨(hk B' fun q=>hx arr t fr (q▸e)).trans e,n⟩
theorem Snt.back{ι:Io}{h:Hp}{w w':World}{b:Nat}{E:Ent}{x:SB}(s:Snt ι h w)(hE:ι b=some E)(hk:∀B',B'≠E.b→w'.heap[B']?=w.heap[B']?)(hx:∀arr t fr,w.heap[E.b]?≠some (.cells arr t fr)):Snt ι (upd h b x) w':=
 s.mk' fun B' arr t fr e n=>by
  have hne:B'≠E.b:=fun q=>hx arr t fr (q▸e);refine⟨(hk B' hne).trans e,fun⟨b',E',d,y,z⟩=>?_⟩;by_cases q:b'=b
  ·subst q;rw[hE]at y;cases y;exact hne z.symm
  ·rw[upd_ne _ q]at d;exact n ⟨b',E',d,y,z⟩
structure HR (ι:Io) (H:HS) (w:World):Prop where
 rel:Rel ι (hp H.h) H.nx w
 ok:∀b,b<16384→bOk (get 7 b H.h)
 nx:H.nx≤16384
 gl:GOk ι
 sn:Snt ι (hp H.h) w
theorem HR.blt{H:HS}{w:World}(hr:HR ι H w){b:Nat}{E:Ent}(hE:ι b=some E):b<16384:=by
 have:=hr.nx;have h1:b<H.nx:=by
  by_cases h:b<H.nx
  ·exact h
  ·rw[hr.rel.new b (by omega)]at hE;cases hE
 omega
theorem HR.put{h:Tr Blk 7}{nx nx' b:Nat}{w w':World}{ι':Io}{B:Blk}(hr:HR ι ⟨h,nx⟩ w)(hb:b<16384)(hB:bOk B)(hn:nx'≤16384)(hl:Le ι ι')(hrel:Rel ι' (upd (hp h) b (hv B)) nx' w')(hsn:Snt ι' (upd (hp h) b (hv B)) w'):HR ι' ⟨Ev8.put 7 b B h,nx'⟩ w' where
 rel:=by rw[show(HS.mk (Ev8.put 7 b B h) nx').h=Ev8.put 7 b B h from rfl,hp_put B h hb];exact hrel
 ok i hi:=by
  show bOk (get 7 i (Ev8.put 7 b B h));by_cases e:i=b
  ·subst e;rw[get_put];exact hB
  ·rw[get_put_ne 7 B h (by simpa using hb) (by simpa using hi) (Ne.symm e)];exact hr.ok i hi
 nx:=hn
 gl:=hr.gl.le hl
 sn:=by rw[show(HS.mk (Ev8.put 7 b B h) nx').h=Ev8.put 7 b B h from rfl,hp_put B h hb];exact hsn
theorem pos_ge:∀{vs:List Nat} {t k n:Nat},pos t vs k=some n→k≤n∧n<k+vs.length
 |[],t,k,n,h=>by cases h
 |u::l,t,k,n,h=>by
  simp only[pos]at h;cases hb:Nat.beq u t with
  |true=>rw[hb]at h;simp only[cond_true,Option.some.injEq]at h;subst h;simp
  |false=>rw[hb]at h;obtain⟨a,b⟩:=pos_ge h;simp only[Nat.succ_eq_add_one]at a b;simp;omega
theorem pos_inj:∀{vs:List Nat} {t u k n:Nat},pos t vs k=some n→pos u vs k=some n→t=u
 |[],t,u,k,n,h,_=>by cases h
 |a::l,t,u,k,n,h,h'=>by
  simp only[pos]at h h';cases hb:Nat.beq a t with
  |true=>
   rw[hb]at h;simp only[cond_true,Option.some.injEq]at h;subst h;cases hc:Nat.beq a u with
   |true=>rw[←Nat.eq_of_beq_eq_true hb,Nat.eq_of_beq_eq_true hc]
   |false=>rw[hc]at h';have:=(pos_ge h').1;simp only[Nat.succ_eq_add_one]at this;omega
  |false=>
   rw[hb]at h;cases hc:Nat.beq a u with
   |true=>rw[hc]at h';simp only[cond_true,Option.some.injEq]at h';subst h';have:=(pos_ge h).1;simp only[Nat.succ_eq_add_one]at this;omega
   |false=>rw[hc]at h';exact pos_inj h h'
theorem tv_put{vs:List Nat}{t n:Nat}(hp:pos t vs 0=some n)(hl:vs.length≤72)(x:AV)(tm:TM):tv vs (tput n x tm)=upd (tv vs tm) t x:=by
 funext u
 simp only[tv,upd];by_cases e:u=t
 ·subst e;rw[hp,if_pos rfl];exact tget_tput n x tm
 ·rw[if_neg e];cases hu:pos u vs 0 with
  |none=>rfl
  |some m=>
   have h1:=(pos_ge hp).2;have h2:=(pos_ge hu).2;exact tget_ne x tm (by omega) (by omega) fun q=>e (pos_inj hu (q▸hp))
end Go.Proofs.YtglihimiidiacaaGreatDoor.Ev8
namespace Go.Proofs.YtglihimiidiacaaGreatDoor.Ev8
open Go
variable {P:Program} {ι ι':Io}
theorem rl_of1:∀(l:List Value),RL ι (mkL (l.map ofV1)) l
 |[]=>rfl
 |v::l=>⟨v,l,rfl,RV_of1 v,rl_of1 l⟩
theorem RV_of(v:Value):RV ι (ofV v) v:=by
 cases v with
 |agg cs=>exact⟨cs.toList,rl_of1 _,by simp⟩
 |tuple cs=>
  simp only[ofV];split
  ·rename_i h
   have:cs=#[]:=Array.eq_empty_of_size_eq_zero h;subst this;rfl
  ·exact⟨cs.toList,rl_of1 _,by simp⟩
 |_=>simp only[ofV];exact RV_of1 _
def aev(θ:Te):Operand→AV
 |.tmp t=>θ t
 |.const v=>ofV v
 |.global g=>.ptr g 0
 |.func f=>.k 2 f .nil
def Ops(ι:Io)(θ:Te)(o:Oper)(a:Act):Prop:=∀x∈o.op.operands.toList,RV ι (aev θ x) (a.eval x)
def St(P:Program)(ι:Io)(H:HS)(w:World)(ev:Operand→Value)(o:Oper)(u:AV)(H':HS):Prop:=
 ∃r w' ι' v,(execOp ev o).run P w=.ok r w'∧(r=.value v∨(r=.skip∧v=undef))∧RV ι' u v∧HR ι' H' w'∧Go1 ι (hp H.h) w ι' (hp H'.h) H'.nx w'
theorem St.rd{H:HS}{w:World}{ev:Operand→Value}{o:Oper}{u:AV}(hr:HR ι H w)(h:Rd P ι w ev o u):St P ι H w ev o u H:=by
 obtain⟨v,h1,h2⟩:=h;exact⟨_,w,ι,v,h1,.inl rfl,h2,hr,Go1.refl hr.rel⟩
theorem St.wr{h:Tr Blk 7}{nx nx' b:Nat}{w:World}{ev:Operand→Value}{o:Oper}{u:AV}{B:Blk}(hr:HR ι ⟨h,nx⟩ w)(hb:b<16384)(hB:bOk B)(hn:nx'≤16384)(hw:Wr P ι (hp h) w ev o u (upd (hp h) b (hv B)) nx'):St P ι ⟨h,nx⟩ w ev o u ⟨Ev8.put 7 b B h,nx'⟩:=by
 obtain⟨r,w',ι',v,h1,h2,h3,h4⟩:=hw;refine⟨r,w',ι',v,h1,h2,h3,hr.put hb hB hn h4.le h4.rel (hr.sn.go h4),?_⟩;show Go1 ι (hp h) w ι' (hp (Ev8.put 7 b B h)) nx' w';rw[hp_put B h hb];exact h4
def OpIn(F:Fence)(n:Nat)(P:Program)(ι:Io)(H:HS)(w:World)(a:Act)(o:Oper)(u:AV)(H':HS):Prop:=
 ∀(next:Act→World→Prop) (Q:Exit→Act→World→Prop),(∀v w' ι',RV ι' u v→HR ι' H' w'→Go1 ι (hp H.h) w ι' (hp H'.h) H'.nx w'→next (a.put o.dst v) w')→o.wpIn F n P a w next Q
theorem St.opIn{F:Fence}(hF:∀f,F.fn f){n:Nat}{H:HS}{w:World}{a:Act}{o:Oper}{u:AV}{H':HS}(hdf:∀c,o.op≠.defer c)(hs:St P ι H w a.eval o u H'):OpIn F n P ι H w a o u H':=by
 intro next Q hn;obtain⟨r,w',ι',v,h1,h2,h3,h4,h5⟩:=hs;refine⟨fun f _=>hF f,?_⟩;rw[Oper.semAt_eq _ _ _ hdf,h1];rcases h2 with rfl|⟨rfl,rfl⟩
 ·exact hn v w' ι' h3 h4 h5
 ·exact hn _ w' ι' h3 h4 h5
def RStep(P:Program)(θ:Te)(o:Oper)(u:AV):Prop:=∀ι a w,Ops ι θ o a→Rd P ι w a.eval o u
def BStep(P:Program)(θ:Te)(H:HS)(o:Oper)(u:AV)(H':HS):Prop:=∀ι a w,HR ι H w→Ops ι θ o a→St P ι H w a.eval o u H'
def AStep(F:Fence)(n:Nat)(P:Program)(θ:Te)(H:HS)(o:Oper)(u:AV)(H':HS):Prop:=∀ι a w,HR ι H w→Ops ι θ o a→OpIn F n P ι H w a o u H'
def Row(H:HS)(b:Nat)(f:Nat→AV)(n:Nat):Prop:=(∃τ cs,get 7 b H.h=.s τ cs n∧f=fun i=>get 2 i cs)∨(∃τ cs,get 7 b H.h=.c τ cs n∧f=fun i=>get 6 i cs)
def LStep(P:Program)(θ:Te)(H:HS)(o:Oper)(u:AV):Prop:=∃t x b q f n,o.op=.load t x∧aev θ x=.ptr b q∧(b<16384→Row H b f n)∧
 (((∀w,(isAgg t).run P w=.ok false w)∧q<n∧u=f q)∨(∃m,(∀w,(isAgg t).run P w=.ok true w)∧(∀w,(Go.sizeOf t).run P w=.ok m w)∧q+m≤n∧u=.k 0 0 (mkL ((List.range' q m).map f))))
theorem RStep.b{θ:Te}{o:Oper}{u:AV}(h:RStep P θ o u)(H:HS):BStep P θ H o u H:=fun ι a w hr hO=>St.rd hr (h ι a w hO)
theorem BStep.a{F:Fence}(hF:∀f,F.fn f){n:Nat}{θ:Te}{H H':HS}{o:Oper}{u:AV}(hdf:∀c,o.op≠.defer c)(h:BStep P θ H o u H'):AStep F n P θ H o u H':=fun ι a w hr hO=>(h ι a w hr hO).opIn hF hdf
theorem HR.at{H:HS}{w:World}(hr:HR ι H w){b:Nat}{E:Ent}(hE:ι b=some E):hp H.h b=hv (get 7 b H.h)∧bOk (get 7 b H.h):=by
 have hb:=hr.blt hE;exact⟨by simp only[hp,if_pos hb],hr.ok b hb⟩
theorem vw_get{d:Nat}{cs:Tr AV d}{i:Nat}(h:i<4 ^ d):vw d cs i=get d i cs:=by simp only[vw];rw[if_pos h]
theorem map_vw{d:Nat}{cs:Tr AV d}{q m:Nat}(h:q+m≤4 ^ d):(List.range' q m).map (fun i=>get d i cs)=(List.range' q m).map (vw d cs):=by
 apply List.map_congr_left;intro i hi;have:=List.mem_range'_1.1 hi;rw[vw_get (by omega)]
theorem LStep.b{θ:Te}{H:HS}{o:Oper}{u:AV}(h:LStep P θ H o u):BStep P θ H o u H:=by
 obtain⟨t,x,b,q,f,n,ho,hx,hrow,hc⟩:=h;intro ι a w hr hO;have h2:=hO x (by simp[ho,Op.operands]);rw[hx]at h2;obtain⟨E,hE,-⟩:=h2.ptr;obtain⟨hh,hok⟩:=hr.at hE;rcases hrow (hr.blt hE) with⟨τ,cs,hB,rfl⟩|⟨τ,cs,hB,rfl⟩
 ·rw[hB]at hok hh;have hok':n≤16:=hok;rcases hc with⟨ht,hq,rfl⟩|⟨m,ht,hz,hq,rfl⟩
  ·show St P ι H w a.eval o (get 2 q cs) H;rw[←vw_get (d:=2) (by omega)];exact St.rd hr (rd_load1 ho hr.rel h2 hh hq ht)
  ·rw[map_vw (d:=2) (by omega)];exact St.rd hr (rd_loadA ho hr.rel h2 hh hq ht hz)
 ·rw[hB]at hok hh;have hok':n≤4096:=hok;rcases hc with⟨ht,hq,rfl⟩|⟨m,ht,hz,hq,rfl⟩
  ·show St P ι H w a.eval o (get 6 q cs) H;rw[←vw_get (d:=6) (by omega)];exact St.rd hr (rd_load1 ho hr.rel h2 hh hq ht)
  ·rw[map_vw (d:=6) (by omega)];exact St.rd hr (rd_loadA ho hr.rel h2 hh hq ht hz)
theorem LStep.at{θ:Te}{H H':HS}{o:Oper}{u:AV}(h:LStep P θ H o u)(hh:∀b,b<16384→(∃f n,Row H b f n)→get 7 b H'.h=get 7 b H.h):LStep P θ H' o u:=by
 obtain⟨t,x,b,q,f,n,ho,hx,hrow,hc⟩:=h;refine⟨t,x,b,q,f,n,ho,hx,fun hb=>?_,hc⟩;have:=hh b hb ⟨f,n,hrow hb⟩;unfold Row;rw[this];exact hrow hb
def OV(s:Sx)(θ:Te)(e:E)(tm:TM):Prop:=∀x:Operand,(opd s x).f e tm=aev θ x∨(opd s x).f e tm=.un
theorem OV.rv{s:Sx}{θ:Te}{e:E}{tm:TM}(hO:OV s θ e tm){x:Operand}{v:Value}(h:RV ι (aev θ x) v):RV ι ((opd s x).f e tm) v:=by
 rcases hO x with h1|h1
 ·rw[h1];exact h
 ·rw[h1];exact⟨v,rfl⟩
theorem OV.is{s:Sx}{θ:Te}{e:E}{tm:TM}(hO:OV s θ e tm){x:Operand}{p:AV}(h:(opd s x).f e tm=p)(hp:p≠.un):aev θ x=p:=by
 rcases hO x with h1|h1
 ·rw[←h1];exact h
 ·exact absurd (h1.symm.trans h).symm hp
def OpR(P:Program)(o:Oper)(s:Sx)(f:WR→WR):Prop:=
 ∀(K:WR) (X:Cx) (e:E) (tm:TM) (H:HS) (θ:Te) (R:Res),OV s θ e tm→R≠.fail→(f K).f X e tm H=R→∃u,K.f X (.c u e) tm H=R∧RStep P θ o u
def OpL(P:Program)(o:Oper)(s:Sx)(f:WR→WR):Prop:=
 ∀(K:WR) (X:Cx) (e:E) (tm:TM) (H:HS) (θ:Te) (R:Res),OV s θ e tm→R≠.fail→(f K).f X e tm H=R→∃u,K.f X (.c u e) tm H=R∧LStep P θ H o u
def OpB(P:Program)(o:Oper)(s:Sx)(f:WR→WR):Prop:=
 ∀(K:WR) (X:Cx) (e:E) (tm:TM) (H:HS) (θ:Te) (R:Res),OV s θ e tm→R≠.fail→(f K).f X e tm H=R→∃u H',K.f X (.c u e) tm H'=R∧BStep P θ H o u H'
theorem tst{c:Bool}{A R:Res}(hR:R≠.fail)(h:Bool.rec (motive:=fun _=>Res) .fail A c=R):c=true∧A=R:=by
 cases c with
 |false=>exact absurd h.symm hR
 |true=>exact⟨rfl,h⟩
theorem iB_ok{c:Bool}{A R:Res}(hR:R≠.fail)(h:iB c A .fail=R):c=true∧A=R:=tst hR h
theorem blt_lt{a b:Nat}(h:Nat.blt a b=true):a<b:=Nat.lt_of_lt_of_le (Nat.lt_succ_self a) (Nat.le_of_ble_eq_true h)
theorem and_ok{a b:Bool}(h:and a b=true):a=true∧b=true:=by simpa using h
theorem ok_mov{o:Oper}{s:Sx}{x:Operand}(ho:o.op=.move x∨o.op=.assign x):OpR P o s fun k=>⟨movF (opd s x) k⟩:=by
 intro K X e tm H θ R hO hR h;refine⟨_,h,fun ι a w hx=>?_⟩;rcases ho with ho|ho
 ·exact rd_move (ρ:=fun _=>(opd s x).f e tm) ho (hO.rv (hx x (by simp[ho,Op.operands])))
 ·exact rd_assign (ρ:=fun _=>(opd s x).f e tm) ho (hO.rv (hx x (by simp[ho,Op.operands])))
theorem ok_pick{o:Oper}{s:Sx}{c x y:Operand}(ho:o.op=.pick c x y):OpR P o s fun k=>⟨pickF (opd s c) (opd s x) (opd s y) k⟩:=by
 intro K X e tm H θ R hO hR h;change pkG (fun v=>K.f X (.c v e) tm H) _ _ _=R at h;cases hp:(opd s c).f e tm with
 |b t=>
  rw[hp]at h;cases t with
  |true=>
   refine⟨_,h,fun ι a w hx=>rd_pick (t:=true) ho ?_ (hO.rv (hx x (by simp[ho,Op.operands])))⟩;rw[←hp];exact hO.rv (hx c (by simp[ho,Op.operands]))
  |false=>
   refine⟨_,h,fun ι a w hx=>rd_pick (t:=false) ho ?_ (hO.rv (hx y (by simp[ho,Op.operands])))⟩;rw[←hp];exact hO.rv (hx c (by simp[ho,Op.operands]))
 |_=>rw[hp]at h;exact absurd h.symm hR
theorem rd_nilf{o:Oper}{ev:Operand→Value}{w:World}{x:Operand}(ho:o.op=.nilCheck x){f:Nat}{l:AV}(hx:RV ι (.k 2 f l) (ev x)):Rd P ι w ev o (.k 2 f l):=by
 obtain⟨ws,h1,hv⟩:=hx.fn;refine⟨ev x,?_,hx⟩;simp[execOp,ho,hv,go_sem]
theorem ok_nil{o:Oper}{s:Sx}{x:Operand}(ho:o.op=.nilCheck x):OpR P o s fun k=>⟨nilF (opd s x) k⟩:=by
 intro K X e tm H θ R hO hR h;change nlG (fun v=>K.f X (.c v e) tm H) _=R at h;cases hp:(opd s x).f e tm with
 |ptr b q=>
  rw[hp]at h;refine⟨_,h,fun ι a w hx=>rd_nil ho ?_⟩;rw[←hp];exact hO.rv (hx x (by simp[ho,Op.operands]))
 |k g f l=>
  rw[hp]at h;obtain⟨c1,h1⟩:=tst hR h;have hg:g=2:=Nat.eq_of_beq_eq_true c1;subst hg;refine⟨_,h1,fun ι a w hx=>rd_nilf ho ?_⟩;rw[←hp];exact hO.rv (hx x (by simp[ho,Op.operands]))
 |_=>rw[hp]at h;exact absurd h.symm hR
theorem ok_fld{o:Oper}{s:Sx}{t:TypeId}{x:Operand}{f q0:Nat}(ho:o.op=.fieldAddr t x f){fs:Array Field}(hs:P.underlying t=some (.struct fs)){fl:Field}(hf:fs[f]?=some fl)(hq:fl.offset=q0)
 {m:Nat} (hz:∀w,(Go.sizeOf fl.type).run P w=.ok m w) (hm:m≠0):OpR P o s fun k=>⟨fldF q0 (opd s x) k⟩:=by
 intro K X e tm H θ R hO hR h;change fdG q0 (fun v=>K.f X (.c v e) tm H) _=R at h;cases hp:(opd s x).f e tm with
 |ptr b q=>
  rw[hp]at h;change fN (Nat.add q q0) (fun o=>K.f X (.c (.ptr b o) e) tm H)=R at h;rw[fN_eq]at h;subst hq;refine⟨_,h,fun ι a w hx=>rd_fld ho ?_ hs hf hz hm⟩;rw[←hp];exact hO.rv (hx x (by simp[ho,Op.operands]))
 |_=>rw[hp]at h;exact absurd h.symm hR
theorem aN_ok{C:Nat→Res}{a:AV}{R:Res}(h:aN C a=R)(hR:R≠.fail):∃k n,a=.i k (.ofNat n)∧C n=R:=by
 cases a with
 |i k z=>cases z with
  |ofNat n=>exact⟨k,n,rfl,h⟩
  |negSucc n=>exact absurd h.symm hR
 |_=>exact absurd h.symm hR
theorem ok_ixa{o:Oper}{s:Sx}{t:TypeId}{x y:Operand}(ho:o.op=.indexAddr t x y){len sz:Nat}{el:TypeId}(ht:P.underlying t=some (.array len el))(hz:∀w,(Go.sizeOf el).run P w=.ok sz w):OpR P o s fun k=>⟨ixaF len sz (opd s x) (opd s y) k⟩:=by
 intro K X e tm H θ R hO hR h;obtain⟨kk,i,hi,h1⟩:=aN_ok (C:=fun i=>iaG len sz (fun v=>K.f X (.c v e) tm H) i ((opd s x).f e tm)) h hR;cases hp:(opd s x).f e tm with
 |ptr b q=>
  rw[hp]at h1;obtain⟨c1,h2⟩:=tst hR h1;rw[fN_eq]at h2;refine⟨_,h2,fun ι a w hx=>rd_ixa ho (k:=kk) ?_ ?_ ht hz (blt_lt c1)⟩
  ·rw[←hp];exact hO.rv (hx x (by simp[ho,Op.operands]))
  ·rw[←hi];exact hO.rv (hx y (by simp[ho,Op.operands]))
 |_=>rw[hp]at h1;exact absurd h1.symm hR
theorem ok_ixs{o:Oper}{s:Sx}{t:TypeId}{x y:Operand}(ho:o.op=.indexAddr t x y){sz:Nat}{el:TypeId}(ht:P.underlying t=some (.slice el))(hz:∀w,(Go.sizeOf el).run P w=.ok sz w):OpR P o s fun k=>⟨ixsF sz (opd s x) (opd s y) k⟩:=by
 intro K X e tm H θ R hO hR h;obtain⟨kk,i,hi,h1⟩:=aN_ok (C:=fun i=>isG sz (fun v=>K.f X (.c v e) tm H) i ((opd s x).f e tm)) h hR;cases hp:(opd s x).f e tm with
 |sl b e q z n c=>
  rw[hp]at h1;obtain⟨c1,h2⟩:=tst hR h1;obtain⟨c2,c3⟩:=and_ok c1;have he:e=sz:=Nat.eq_of_beq_eq_true c2;subst he;rw[fN_eq]at h2;refine⟨_,h2,fun ι a w hx=>rd_ixs ho (k:=kk) (z:=z) (n:=n) (c:=c) ?_ ?_ ht hz (blt_lt c3)⟩
  ·rw[←hp];exact hO.rv (hx x (by simp[ho,Op.operands]))
  ·rw[←hi];exact hO.rv (hx y (by simp[ho,Op.operands]))
 |_=>rw[hp]at h1;exact absurd h1.symm hR
theorem ok_idx{o:Oper}{s:Sx}{t:TypeId}{x y:Operand}(ho:o.op=.index t x y)(ht:P.underlying t=some .string):OpR P o s fun k=>⟨idxF (opd s x) (opd s y) k⟩:=by
 intro K X e tm H θ R hO hR h;obtain⟨kk,i,hi,h1⟩:=aN_ok (C:=fun i=>itG (fun v=>K.f X (.c v e) tm H) i ((opd s x).f e tm)) h hR;cases hp:(opd s x).f e tm with
 |s l n=>
  rw[hp]at h1;obtain⟨c1,h2⟩:=tst hR h1;rw[cN_eq]at h2;refine⟨_,h2,fun ι a w hx=>rd_idx ho (l:=l) (k:=kk) ?_ ?_ ht (blt_lt c1)⟩
  ·rw[←hp];exact hO.rv (hx x (by simp[ho,Op.operands]))
  ·rw[←hi];exact hO.rv (hx y (by simp[ho,Op.operands]))
 |_=>rw[hp]at h1;exact absurd h1.symm hR
end Go.Proofs.YtglihimiidiacaaGreatDoor.Ev8
namespace Go.Proofs.YtglihimiidiacaaGreatDoor.Ev8
open Go
variable {P:Program} {ι ι':Io}
def lo:IntKind→Int
 |.i8=>-128|.i16=>-32768|.i32=>-2147483648|.i64=>-9223372036854775808|_=>0
def hi:IntKind→Int
 |.i8=>127|.i16=>32767|.i32=>2147483647|.i64=>9223372036854775807|.u8=>255|.u16=>65535|.u32=>4294967295|.u64=>18446744073709551615
theorem wrap_in(k:IntKind)(n:Int):lo k≤k.wrap n∧k.wrap n≤hi k:=by
 cases k<;>simp[IntKind.wrap,IntKind.bits,IntKind.signed,lo,hi]<;>(try split)<;>omega
theorem wrap_id{k:IntKind}{n:Int}:k.wrap n=n↔lo k≤n∧n≤hi k:=by
 cases k<;>simp[IntKind.wrap,IntKind.bits,IntKind.signed,lo,hi]<;>(try split)<;>omega
theorem wrap_wrap(k:IntKind)(n:Int):k.wrap (k.wrap n)=k.wrap n:=wrap_id.2 (wrap_in k n)
theorem lo_le(k:IntKind):lo k≤0∧127≤hi k:=by cases k<;>simp[lo,hi]
theorem hi_bits(k:IntKind):hi k<2 ^ k.bits:=by cases k<;>simp[hi,IntKind.bits]
theorem small{k:IntKind}{a:Nat}(h:a≤127):k.wrap (.ofNat a)=.ofNat a:=by
 have:=lo_le k;refine wrap_id.2 ⟨?_,?_⟩
 ·exact Int.le_trans this.1 (Int.natCast_nonneg a)
 ·refine Int.le_trans ?_ this.2;exact Int.ofNat_le.2 h
theorem nat_in{k:IntKind}{a b:Nat}(hb:k.wrap (.ofNat b)=.ofNat b)(h:a≤b):k.wrap (.ofNat a)=.ofNat a:=by
 have h1:=wrap_id.1 hb;have h2:=lo_le k;refine wrap_id.2 ⟨?_,?_⟩
 ·exact Int.le_trans h2.1 (Int.natCast_nonneg a)
 ·refine Int.le_trans ?_ h1.2;exact Int.ofNat_le.2 h
theorem nat_lt{k:IntKind}{a:Nat}(h:k.wrap (.ofNat a)=.ofNat a):a<2 ^ k.bits:=by
 have h1:=(wrap_id.1 h).2;have h2:=hi_bits k;have:(a:Int)<((2 ^ k.bits:Nat):Int):=by
  have:(Int.ofNat a)=(a:Int):=rfl;push_cast;omega
 exact_mod_cast this
def bI(op:BinOp)(k:IntKind)(n m:Int):Option Value:=purely default (binOp op 0 (.int k n) (.int k m))
theorem bI_any{op:BinOp}{t:TypeId}{k k2:IntKind}{n m:Int}{v:Value}(hk:k2=k∨op=.shl∨op=.shr)(h:bI op k n m=some v)(x y:Operand):purely P (do eqGuard op t x y (.int k n) (.int k2 m);binOp op t (.int k n) (.int k2 m))=some v:=by
 have e1:(do eqGuard op t x y (.int k n) (.int k2 m);binOp op t (.int k n) (.int k2 m):Sem Value)=binOp op t (.int k n) (.int k2 m):=by
  cases op<;>rfl
 rw[e1];rcases hk with rfl|rfl|rfl
 ·cases op<;>simp[bI,binOp,Op.shift,Op.intArith,Op.intDiv,Op.intBits,Op.intCmp]at h ⊢<;>first|exact h|(split at h<;>first|exact h|(rename_i q;simp only[q,if_true,if_false];exact h)|cases h)
 ·simp[bI,binOp,Op.shift]at h ⊢;split at h<;>rename_i q<;>simp only[q,if_true,if_false]<;>first|exact h|cases h
 ·simp[bI,binOp,Op.shift]at h ⊢;split at h<;>rename_i q<;>simp only[q,if_true,if_false]<;>first|exact h|cases h
end Go.Proofs.YtglihimiidiacaaGreatDoor.Ev8
namespace Go.Proofs.YtglihimiidiacaaGreatDoor.Ev8
open Go
variable {P:Program} {ι ι':Io}
def BIo(op:BinOp)(q:IntKind)(n m:Int)(C:AV→Res)(R:Res):Prop:=∃u,C u=R∧(q.wrap n=n→(isSh op=true∨q.wrap m=m)→∃v,bI op q n m=some v∧∀ι,RV ι u v)
theorem fV_ok{a:AV}{C:AV→Res}{R:Res}(h:fV a C=R)(hR:R≠.fail):C a=R∧a≠.un:=by
 by_cases e:a=.un
 ·subst e;exact absurd h.symm hR
 ·rw[fV_eq a C e]at h;exact⟨h,e⟩
theorem oR_ok{α:Type}{x:Option α}{C:α→Res}{R:Res}(h:oR x C=R)(hR:R≠.fail):∃a,x=some a∧C a=R:=by
 cases x with
 |none=>exact absurd h.symm hR
 |some a=>exact⟨a,rfl,h⟩
theorem slw_ok{op:BinOp}{q:IntKind}{n m:Int}{C:AV→Res}{R:Res}(h:slwI op q n m C=R)(hR:R≠.fail):BIo op q n m C R:=by
 obtain⟨v,h1,h2⟩:=oR_ok h hR;obtain⟨h3,-⟩:=fV_ok h2 hR;exact⟨_,h3,fun _ _=>⟨v,h1,fun ι=>RV_of1 v⟩⟩
theorem int_ok{op:BinOp}{q:IntKind}{n m r:Int}{C:AV→Res}{R:Res}(h:C (.i q r)=R)(hb:q.wrap n=n→(isSh op=true∨q.wrap m=m)→bI op q n m=some (.int q r)∧q.wrap r=r):BIo op q n m C R:=
 ⟨_,h,fun hn hm=>⟨_,(hb hn hm).1,fun _ι=>⟨rfl,(hb hn hm).2⟩⟩⟩
theorem wint_ok{op:BinOp}{q:IntKind}{n m r:Int}{C:AV→Res}{R:Res}(h:cI q (q.wrap r) C=R)(hb:bI op q n m=some (.int q (q.wrap r))):BIo op q n m C R:=by
 rw[cI_eq]at h;exact int_ok h fun _ _=>⟨hb,wrap_wrap q r⟩
theorem bool_ok{op:BinOp}{q:IntKind}{n m:Int}{r:Bool}{C:AV→Res}{R:Res}(h:C (.b r)=R)(hb:bI op q n m=some (.bool r)):BIo op q n m C R:=
 ⟨_,h,fun _ _=>⟨_,hb,fun _ι=>rfl⟩⟩
theorem add_ok{q:IntKind}{n m:Int}{C:AV→Res}{R:Res}(h:addI q n m C=R):BIo .add q n m C R:=by
 have gen:addS q n m C=R→BIo .add q n m C R:=fun h=>wint_ok h (by simp[bI,binOp,Op.intArith,purely,pure]);cases n with
 |negSucc a=>exact gen h
 |ofNat a=>cases m with
  |negSucc b=>exact gen h
  |ofNat b=>
   change Bool.rec (motive:=fun _=>Res) (addS q (.ofNat a) (.ofNat b) C) (cN q (Nat.add a b) C) (Nat.ble (Nat.add a b) 127)=R at h;cases hc:Nat.ble (Nat.add a b) 127 with
   |false=>rw[hc]at h;exact gen h
   |true=>
    rw[hc]at h;change cN q (Nat.add a b) C=R at h;rw[cN_eq]at h;have hs:q.wrap (.ofNat (a+b))=.ofNat (a+b):=small (Nat.le_of_ble_eq_true hc);refine int_ok h fun _ _=>⟨?_,hs⟩;have:bI .add q (.ofNat a) (.ofNat b)=some (.int q (q.wrap (Int.ofNat a+Int.ofNat b))):=by simp[bI,binOp,Op.intArith,purely,pure]
    rw[this,show(Int.ofNat a+Int.ofNat b)=Int.ofNat (a+b) from rfl,hs];rfl
theorem sub_ok{q:IntKind}{n m:Int}{C:AV→Res}{R:Res}(h:subI q n m C=R):BIo .sub q n m C R:=by
 have gen:subS q n m C=R→BIo .sub q n m C R:=fun h=>wint_ok h (by simp[bI,binOp,Op.intArith,purely,pure]);cases n with
 |negSucc a=>exact gen h
 |ofNat a=>cases m with
  |negSucc b=>exact gen h
  |ofNat b=>
   change Bool.rec (motive:=fun _=>Res) (subS q (.ofNat a) (.ofNat b) C) (cN q (Nat.sub a b) C) (and (Nat.ble b a) (Nat.ble a 127))=R at h;cases hc:and (Nat.ble b a) (Nat.ble a 127) with
   |false=>rw[hc]at h;exact gen h
   |true=>
    rw[hc]at h;change cN q (Nat.sub a b) C=R at h;rw[cN_eq]at h;obtain⟨c1,c2⟩:=and_ok hc;have h1:b≤a:=Nat.le_of_ble_eq_true c1;have h2:a≤127:=Nat.le_of_ble_eq_true c2;have hs:q.wrap (.ofNat (a-b))=.ofNat (a-b):=small (by omega);refine int_ok h fun _ _=>⟨?_,hs⟩;have:bI .sub q (.ofNat a) (.ofNat b)=some (.int q (q.wrap (Int.ofNat a-Int.ofNat b))):=by simp[bI,binOp,Op.intArith,purely,pure]
    rw[this,show(Int.ofNat a-Int.ofNat b)=Int.ofNat (a-b) from by simp only[Int.ofNat_eq_natCast];omega,hs];rfl
theorem cmp_ok{op:BinOp}{p:Nat→Nat→Bool}{x y:Bool}{g:Nat→Nat→Bool}{q:IntKind}{n m:Int}{C:AV→Res}{R:Res}(h:cmpI p x y g q n m C=R)
 (h1:∀a b:Nat,bI op q (.ofNat a) (.ofNat b)=some (.bool (p a b))) (h2:∀a b:Nat,bI op q (.ofNat a) (.negSucc b)=some (.bool x)) (h3:∀a b:Nat,bI op q (.negSucc a) (.ofNat b)=some (.bool y)) (h4:∀a b:Nat,bI op q (.negSucc a) (.negSucc b)=some (.bool (g a b))):BIo op q n m C R:=by
 cases n with
 |ofNat a=>cases m with
  |ofNat b=>
   change cB (p a b) C=R at h;rw[cB_eq]at h;exact bool_ok h (h1 a b)
  |negSucc b=>exact bool_ok h (h2 a b)
 |negSucc a=>cases m with
  |ofNat b=>exact bool_ok h (h3 a b)
  |negSucc b=>
   change cB (g a b) C=R at h;rw[cB_eq]at h;exact bool_ok h (h4 a b)
theorem ble_dec(a b:Nat):Nat.ble a b=decide (a≤b):=by
 cases h:Nat.ble a b with
 |true=>simp[Nat.le_of_ble_eq_true h]
 |false=>
  have:¬a≤b:=fun q=>by rw[Nat.ble_eq_true_of_le q]at h;cases h
  simp[this]
theorem blt_dec(a b:Nat):Nat.blt a b=decide (a<b):=ble_dec (a+1) b
theorem lss_ok{q:IntKind}{n m:Int}{C:AV→Res}{R:Res}(h:lssI q n m C=R):BIo .lss q n m C R:=by
 refine cmp_ok h ?_ ?_ ?_ ?_<;>intro a b<;>simp[bI,binOp,Op.intCmp,purely,pure,blt_dec]<;>omega
theorem leq_ok{q:IntKind}{n m:Int}{C:AV→Res}{R:Res}(h:cmpI Nat.ble false true (fun a b=>Nat.ble b a) q n m C=R):BIo .leq q n m C R:=by
 refine cmp_ok h ?_ ?_ ?_ ?_<;>intro a b<;>simp[bI,binOp,Op.intCmp,purely,pure,ble_dec]<;>omega
theorem gtr_ok{q:IntKind}{n m:Int}{C:AV→Res}{R:Res}(h:cmpI (fun a b=>Nat.blt b a) true false Nat.blt q n m C=R):BIo .gtr q n m C R:=by
 refine cmp_ok h ?_ ?_ ?_ ?_<;>intro a b<;>simp[bI,binOp,Op.intCmp,purely,pure,blt_dec]<;>omega
theorem geq_ok{q:IntKind}{n m:Int}{C:AV→Res}{R:Res}(h:cmpI (fun a b=>Nat.ble b a) true false Nat.ble q n m C=R):BIo .geq q n m C R:=by
 refine cmp_ok h ?_ ?_ ?_ ?_<;>intro a b<;>simp[bI,binOp,Op.intCmp,purely,pure,ble_dec]<;>omega
theorem eql_ok{q:IntKind}{n m:Int}{C:AV→Res}{R:Res}(h:cmpI Nat.beq false false Nat.beq q n m C=R):BIo .eql q n m C R:=by
 refine cmp_ok h ?_ ?_ ?_ ?_<;>intro a b<;>simp[bI,binOp,Op.intCmp,purely,pure,beq_dec]<;>first|omega|(rw[Bool.eq_iff_iff];simp;done)|(rw[Bool.eq_iff_iff];simp;omega)|(intro q;cases q)
theorem neq_ok{q:IntKind}{n m:Int}{C:AV→Res}{R:Res}(h:cmpI (fun a b=>not (Nat.beq a b)) true true (fun a b=>not (Nat.beq a b)) q n m C=R):BIo .neq q n m C R:=by
 refine cmp_ok h ?_ ?_ ?_ ?_<;>intro a b<;>simp[bI,binOp,Op.intCmp,purely,pure,beq_dec]<;>first|omega|(rw[Bool.eq_iff_iff];simp;done)|(rw[Bool.eq_iff_iff];simp;omega)|(intro q;cases q)
end Go.Proofs.YtglihimiidiacaaGreatDoor.Ev8
namespace Go.Proofs.YtglihimiidiacaaGreatDoor.Ev8
open Go
variable {P:Program} {ι ι':Io}
theorem mul_ok{q:IntKind}{n m:Int}{C:AV→Res}{R:Res}(h:mulI q n m C=R):BIo .mul q n m C R:=
 wint_ok h (by simp[bI,binOp,Op.intArith,purely,pure])
theorem nat_op{op:BinOp}{g:Nat→Nat→Nat}{q:IntKind}{n m:Int}{C:AV→Res}{R:Res}(h:natI op g q n m C=R)(hR:R≠.fail)
 (hg:q.wrap n=n→(isSh op=true∨q.wrap m=m)→∀a b:Nat,n=.ofNat a→m=.ofNat b→bI op q (.ofNat a) (.ofNat b)=some (.int q (.ofNat (g a b)))∧q.wrap (.ofNat (g a b))=.ofNat (g a b)):BIo op q n m C R:=by
 cases n with
 |negSucc a=>exact slw_ok h hR
 |ofNat a=>cases m with
  |negSucc b=>exact slw_ok h hR
  |ofNat b=>
   change cN q (g a b) C=R at h;rw[cN_eq]at h;exact int_ok h fun hn hm=>hg hn hm a b rfl rfl
theorem toNat_of{k:IntKind}{a:Nat}(h:k.wrap (.ofNat a)=.ofNat a):(BitVec.ofInt k.bits (Int.ofNat a)).toNat=a:=by
 have:=nat_lt h;simp;exact Nat.mod_eq_of_lt this
theorem le_hi{k:IntKind}{a:Nat}(h:k.wrap (.ofNat a)=.ofNat a):(a:Int)≤hi k:=(wrap_id.1 h).2
theorem hi_full(k:IntKind):∃j,hi k=2 ^ j-1:=by
 cases k
 ·exact⟨7,by simp[hi]⟩
 ·exact⟨15,by simp[hi]⟩
 ·exact⟨31,by simp[hi]⟩
 ·exact⟨63,by simp[hi]⟩
 ·exact⟨8,by simp[hi]⟩
 ·exact⟨16,by simp[hi]⟩
 ·exact⟨32,by simp[hi]⟩
 ·exact⟨64,by simp[hi]⟩
theorem fits_of{k:IntKind}{a b c:Nat}(ha:k.wrap (.ofNat a)=.ofNat a)(hb:k.wrap (.ofNat b)=.ofNat b)(hc:∀j,a<2 ^ j→b<2 ^ j→c<2 ^ j):k.wrap (.ofNat c)=.ofNat c:=by
 obtain⟨j,hj⟩:=hi_full k;have h1:=le_hi ha;have h2:=le_hi hb;have e:((2:Int) ^ j)=((2 ^ j:Nat):Int):=by push_cast;rfl
 have:=hc j (by omega) (by omega);refine wrap_id.2 ⟨Int.le_trans (lo_le k).1 (Int.natCast_nonneg c),?_⟩;show(c:Int)≤hi k;omega
theorem and_ok'{q:IntKind}{n m:Int}{C:AV→Res}{R:Res}(h:natI .and Nat.land q n m C=R)(hR:R≠.fail):BIo .and q n m C R:=by
 refine nat_op h hR fun hn hm a b ha hb=>?_;replace hm:=hm.resolve_left (by simp[isSh])
 subst ha;subst hb;have hw:q.wrap (.ofNat (Nat.land a b))=.ofNat (Nat.land a b):=nat_in hn (Nat.and_le_left (n:=a) (m:=b));refine⟨?_,hw⟩;have:bI .and q (.ofNat a) (.ofNat b)=some (.int q (q.wrap ((BitVec.ofInt q.bits (.ofNat a) &&& BitVec.ofInt q.bits (.ofNat b)).toNat))):=by simp[bI,binOp,Op.intBits,purely,pure]
 rw[this,BitVec.toNat_and,toNat_of hn,toNat_of hm];exact congrArg (fun z=>some (Value.int q z)) hw
theorem or_ok'{q:IntKind}{n m:Int}{C:AV→Res}{R:Res}(h:natI .or Nat.lor q n m C=R)(hR:R≠.fail):BIo .or q n m C R:=by
 refine nat_op h hR fun hn hm a b ha hb=>?_;replace hm:=hm.resolve_left (by simp[isSh])
 subst ha;subst hb;have hw:q.wrap (.ofNat (Nat.lor a b))=.ofNat (Nat.lor a b):=fits_of hn hm fun j h1 h2=>Nat.or_lt_two_pow h1 h2;refine⟨?_,hw⟩;have:bI .or q (.ofNat a) (.ofNat b)=some (.int q (q.wrap ((BitVec.ofInt q.bits (.ofNat a)|||BitVec.ofInt q.bits (.ofNat b)).toNat))):=by simp[bI,binOp,Op.intBits,purely,pure]
 rw[this,BitVec.toNat_or,toNat_of hn,toNat_of hm];exact congrArg (fun z=>some (Value.int q z)) hw
theorem xor_ok'{q:IntKind}{n m:Int}{C:AV→Res}{R:Res}(h:natI .xor Nat.xor q n m C=R)(hR:R≠.fail):BIo .xor q n m C R:=by
 refine nat_op h hR fun hn hm a b ha hb=>?_;replace hm:=hm.resolve_left (by simp[isSh])
 subst ha;subst hb;have hw:q.wrap (.ofNat (Nat.xor a b))=.ofNat (Nat.xor a b):=fits_of hn hm fun j h1 h2=>Nat.xor_lt_two_pow h1 h2;refine⟨?_,hw⟩;have:bI .xor q (.ofNat a) (.ofNat b)=some (.int q (q.wrap ((BitVec.ofInt q.bits (.ofNat a) ^^^ BitVec.ofInt q.bits (.ofNat b)).toNat))):=by simp[bI,binOp,Op.intBits,purely,pure]
 rw[this,BitVec.toNat_xor,toNat_of hn,toNat_of hm];exact congrArg (fun z=>some (Value.int q z)) hw
theorem div_op{op:BinOp}{g:Nat→Nat→Nat}{q:IntKind}{n m:Int}{C:AV→Res}{R:Res}(h:divI op g q n m C=R)(hR:R≠.fail)
 (hg:q.wrap n=n→(isSh op=true∨q.wrap m=m)→∀a b:Nat,n=.ofNat a→m=.ofNat b→b≠0→bI op q (.ofNat a) (.ofNat b)=some (.int q (.ofNat (g a b)))∧q.wrap (.ofNat (g a b))=.ofNat (g a b)):BIo op q n m C R:=by
 cases n with
 |negSucc a=>exact slw_ok h hR
 |ofNat a=>cases m with
  |negSucc b=>exact slw_ok h hR
  |ofNat b=>
   change Bool.rec (motive:=fun _=>Res) (cN q (g a b) C) .fail (Nat.beq b 0)=R at h;cases hb:Nat.beq b 0 with
   |true=>rw[hb]at h;exact absurd h.symm hR
   |false=>
    rw[hb]at h;change cN q (g a b) C=R at h;rw[cN_eq]at h;exact int_ok h fun hn hm=>hg hn hm a b rfl rfl (Nat.ne_of_beq_eq_false hb)
theorem quo_ok{q:IntKind}{n m:Int}{C:AV→Res}{R:Res}(h:divI .quo Nat.div q n m C=R)(hR:R≠.fail):BIo .quo q n m C R:=by
 refine div_op h hR fun hn _ a b ha hb h0=>?_;subst ha;subst hb;have hw:q.wrap (.ofNat (Nat.div a b))=.ofNat (Nat.div a b):=nat_in hn (Nat.div_le_self a b);refine⟨?_,hw⟩;have h0':¬(Int.ofNat b=0):=by simpa using h0
 have:bI .quo q (.ofNat a) (.ofNat b)=some (.int q (q.wrap (Int.tdiv (.ofNat a) (.ofNat b)))):=by
  simp[bI,binOp,Op.intDiv,h0,purely,pure]
 rw[this];exact congrArg (fun z=>some (Value.int q z)) hw
theorem rem_ok{q:IntKind}{n m:Int}{C:AV→Res}{R:Res}(h:divI .rem Nat.mod q n m C=R)(hR:R≠.fail):BIo .rem q n m C R:=by
 refine div_op h hR fun hn _ a b ha hb h0=>?_;subst ha;subst hb;have hw:q.wrap (.ofNat (Nat.mod a b))=.ofNat (Nat.mod a b):=nat_in hn (Nat.mod_le a b);refine⟨?_,hw⟩;have:bI .rem q (.ofNat a) (.ofNat b)=some (.int q (Int.tmod (.ofNat a) (.ofNat b))):=by
  simp[bI,binOp,Op.intDiv,h0,purely,pure]
 rw[this];rfl
theorem shr_ok{q:IntKind}{n m:Int}{C:AV→Res}{R:Res}(h:natI .shr Nat.shiftRight q n m C=R)(hR:R≠.fail):BIo .shr q n m C R:=by
 refine nat_op h hR fun hn _ a b ha hb=>?_;subst ha;subst hb;have e0:Nat.shiftRight a b=a / 2 ^ b:=Nat.shiftRight_eq_div_pow a b;have hw:q.wrap (.ofNat (Nat.shiftRight a b))=.ofNat (Nat.shiftRight a b):=by rw[e0];exact nat_in hn (Nat.div_le_self a _)
 refine⟨?_,hw⟩;have hl:=nat_lt hn;have:bI .shr q (.ofNat a) (.ofNat b)=some (.int q (Int.fdiv (.ofNat a) (2 ^ (min b q.bits)))):=by
  simp[bI,binOp,Op.shift,pure];rw[if_neg (by omega)];rfl
 rw[this,e0];have e1:Int.fdiv (.ofNat a) (2 ^ (min b q.bits))=Int.ofNat (a / 2 ^ (min b q.bits)):=by
  have:((2:Int) ^ (min b q.bits))=((2 ^ (min b q.bits):Nat):Int):=by push_cast;rfl
  rw[this,Int.fdiv_eq_ediv_of_nonneg _ (Int.natCast_nonneg _)];rfl
 rw[e1];have e2:a / 2 ^ (min b q.bits)=a / 2 ^ b:=by
  by_cases hb:b≤q.bits
  ·rw[Nat.min_eq_left hb]
  ·have hq:q.bits≤b:=by omega
   rw[Nat.min_eq_right hq,Nat.div_eq_of_lt hl,Nat.div_eq_of_lt (Nat.lt_of_lt_of_le hl (Nat.pow_le_pow_right (by omega) hq))]
 rw[e2]
theorem shl_ok{q:IntKind}{n m:Int}{C:AV→Res}{R:Res}(h:shlI q n m C=R)(hR:R≠.fail):BIo .shl q n m C R:=by
 cases n with
 |negSucc a=>exact slw_ok h hR
 |ofNat a=>cases m with
  |negSucc b=>exact slw_ok h hR
  |ofNat b=>
   change Bool.rec (motive:=fun _=>Res) (slwI .shl q (.ofNat a) (.ofNat b) C) (cI q (q.wrap (.ofNat (Nat.shiftLeft a b))) C) (Nat.ble b 63)=R at h;cases hb:Nat.ble b 63 with
   |false=>rw[hb]at h;exact slw_ok h hR
   |true=>
    rw[hb]at h;refine wint_ok h ?_;have:bI .shl q (.ofNat a) (.ofNat b)=some (.int q (q.wrap ((Int.ofNat a)*2 ^ (min b q.bits)))):=by
     simp[bI,binOp,Op.shift,pure];rw[if_neg (by omega)];rfl
    rw[this];congr 2
    have e0:Nat.shiftLeft a b=a*2 ^ b:=Nat.shiftLeft_eq a b;rw[e0];by_cases hq:b≤q.bits
    ·rw[Nat.min_eq_left hq];congr 1
    ·have hq':q.bits≤b:=by omega
     rw[Nat.min_eq_right hq'];have e1:∀z:Int,(z*2 ^ q.bits) % (2 ^ q.bits)=0:=fun z=>Int.mul_emod_left z _;have e2:Int.ofNat (a*2 ^ b)=(Int.ofNat a*2 ^ (b-q.bits))*2 ^ q.bits:=by
      show((a*2 ^ b:Nat):Int)=((a:Int)*2 ^ (b-q.bits))*2 ^ q.bits;rw[Int.mul_assoc,←Int.pow_add,show b-q.bits+q.bits=b by omega];push_cast;rfl
     rw[e2];simp only[IntKind.wrap,e1]
theorem sel_ok{op:BinOp}{q:IntKind}{n m:Int}{C:AV→Res}{R:Res}(h:(selI op).f q n m C=R)(hR:R≠.fail):BIo op q n m C R:=by
 cases op with
 |add=>exact add_ok h
 |sub=>exact sub_ok h
 |mul=>exact mul_ok h
 |quo=>exact quo_ok h hR
 |rem=>exact rem_ok h hR
 |and=>exact and_ok' h hR
 |or=>exact or_ok' h hR
 |xor=>exact xor_ok' h hR
 |shl=>exact shl_ok h hR
 |shr=>exact shr_ok h hR
 |eql=>exact eql_ok h
 |neq=>exact neq_ok h
 |lss=>exact lss_ok h
 |leq=>exact leq_ok h
 |gtr=>exact gtr_ok h
 |geq=>exact geq_ok h
 |andNot=>exact absurd h.symm hR
end Go.Proofs.YtglihimiidiacaaGreatDoor.Ev8
namespace Go.Proofs.YtglihimiidiacaaGreatDoor.Ev8
open Go
variable {P:Program} {ι:Io} {w:World} {ev:Operand→Value} {o:Oper}
theorem dbl_in(k:Nat)(z:Int):-9223372036854775808≤dbl k z∧dbl k z≤9223372036854775807:=by unfold dbl;rw[IntKind.wrap_i64];omega
theorem dbl_wrap(k:Nat)(z:Int):IntKind.i64.wrap (dbl k z)=dbl k z:=by
 have:=dbl_in k z;rw[IntKind.wrap_i64];omega
theorem dbl_add(k:Nat)(z:Int):IntKind.i64.wrap (dbl k z+dbl k z)=dbl (k+1) z:=by
 unfold dbl;rw[Int.pow_succ,show(2:Int) ^ k*2*z=2*(2 ^ k*z) by rw[Int.mul_comm ((2:Int) ^ k) 2,Int.mul_assoc]];generalize (2:Int) ^ k*z=q;simp only[IntKind.wrap_i64];omega
theorem decB_list(z:Int):(decB z).data.toList=Lib.itoa z:=by simp[decB]
theorem decB_size(k:Nat)(z:Int):1≤(Lib.itoa (dbl k z)).length∧(Lib.itoa (dbl k z)).length≤21:=by
 have h:=dbl_in k z;refine⟨?_,Lib.itoa_length_le _ h.1 h.2⟩;unfold Lib.itoa;split
 ·simp
 ·rw[Lib.decDigits_length];exact Lib.nDigits_pos _
theorem dec_first:∀(u:Nat),∃d l,Lib.decDigits u=UInt8.ofNat (48+d)::l∧d<10:=by
 intro u;induction u using Nat.strongRecOn with
 |ind u ih=>
  rw[Lib.decDigits];split
  ·exact⟨u,[],rfl,by omega⟩
  ·obtain⟨d,l,h1,h2⟩:=ih (u / 10) (by omega);exact⟨d,l++[UInt8.ofNat (48+u % 10)],by rw[h1];rfl,h2⟩
theorem itoa_first(z:Int):∃c l,Lib.itoa z=UInt8.ofNat c::l∧(c=45∨48≤c∧c≤57):=by
 unfold Lib.itoa;split
 ·exact⟨45,_,rfl,.inl rfl⟩
 ·obtain⟨d,l,h1,h2⟩:=dec_first z.toNat;exact⟨48+d,l,h1,by omega⟩
theorem numC_ne{l n:Nat}(h:numC l n=true)(z:Int):bl l n≠Lib.itoa z:=by
 intro e;obtain⟨c,t,h1,h2⟩:=itoa_first z;rw[h1]at e;cases l with
 |zero=>simp[bl]at e
 |succ l=>
  have e0:(bl (l+1) n)[0]?=some (UInt8.ofNat (n % 256)):=by simp[bl]
  rw[e]at e0;simp only[List.getElem?_cons_zero,Option.some.injEq]at e0;have hc:c=n % 256:=(u8_eq (by omega) (by omega)).1 e0;unfold numC at h;rw[show Nat.mod n 256=c from hc.symm,show Nat.beq (l+1) 0=false from rfl]at h;rcases h2 with rfl|⟨h3,h4⟩
  ·cases h
  ·rw[Nat.ble_eq_true_of_le h3,Nat.ble_eq_true_of_le h4]at h;cases hb:Nat.beq c 45<;>rw[hb]at h<;>cases h
theorem RV.nu{g j:Nat}{v:Value}(hg:isNu g=true)(h:RV ι (.r g j) v):∃E,ι j=some E∧v=.int .i64 (dbl (g-10) (opX E)):=by
 obtain⟨E,h1,u,h2,h3⟩:=h;have e:opv g E=opn g E:=by
  match g,hg with
  |g+2,_=>rfl
 rw[e]at h2;unfold opn at h2;rw[if_pos hg]at h2;cases h2;exact⟨E,h1,by simpa using h3⟩
theorem nu_mk{g j:Nat}(hg:isNu g=true){E:Ent}(h:ι j=some E):RV ι (.r g j) (.int .i64 (dbl (g-10) (opX E))):=by
 refine⟨E,h,_,?_,rfl⟩;have e:opv g E=opn g E:=by
  match g,hg with
  |g+2,_=>rfl
 rw[e];unfold opn;rw[if_pos hg]
theorem tx_nu{g:Nat}(hg:isTx g=true):isNu g=false:=by
 obtain⟨h1,h2⟩:=and_ok hg;have:=Nat.le_of_ble_eq_true h1;unfold isNu;have:Nat.blt g 40=false:=by
  cases hb:Nat.blt g 40 with
  |false=>rfl
  |true=>have:=blt_lt hb;omega
 rw[this];cases Nat.ble 10 g<;>rfl
theorem RV.tx{g j:Nat}{v:Value}(hg:isTx g=true)(h:RV ι (.r g j) v):∃E,ι j=some E∧v=.string (decB (dbl (g-40) (opX E))):=by
 obtain⟨E,h1,u,h2,h3⟩:=h;have e:opv g E=opn g E:=by
  match g,hg with
  |g+2,_=>rfl
 rw[e]at h2;unfold opn at h2;rw[tx_nu hg,if_neg (by simp),if_pos hg]at h2;cases h2;exact⟨E,h1,by simpa using h3⟩
theorem tx_mk{g j:Nat}(hg:isTx g=true){E:Ent}(h:ι j=some E):RV ι (.r g j) (.string (decB (dbl (g-40) (opX E)))):=by
 refine⟨E,h,_,?_,rfl⟩;have e:opv g E=opn g E:=by
  match g,hg with
  |g+2,_=>rfl
 rw[e];unfold opn;rw[tx_nu hg,if_neg (by simp),if_pos hg]
theorem segs_ok:∀{l:AV} {ws:List Value} {a b:Nat},segs l=some (a,b)→RL ι l ws→∃bs,catB ws=some bs∧a≤bs.length∧bs.length≤b
 |.nil,ws,a,b,h,hr=>by
  have:ws=[]:=hr;subst this;simp only[segs,Option.some.injEq,Prod.mk.injEq]at h;exact⟨[],rfl,by simp;omega,by simp⟩
 |.cons (.s l n) t,ws,a,b,h,hr=>by
  obtain⟨v,us,rfl,h1,h2⟩:=hr;simp only[segs]at h;split at h
  ·rename_i a' b' ht
   simp only[Option.some.injEq,Prod.mk.injEq]at h;obtain⟨bs,k1,k2,k3⟩:=segs_ok ht h2;have hv:v=.string (bsOf l n):=by have:[v]=[Value.string (bsOf l n)]:=h1;simpa using this
   subst hv;have hz:(bsOf l n).data.toList.length=l:=bsOf_size l n;obtain⟨e1,e2⟩:=h;simp only[Nat.add_eq]at e1 e2;exact⟨(bsOf l n).data.toList++bs,by simp only[catB,k1,Option.map_some],by rw[List.length_append,hz];omega,by rw[List.length_append,hz];omega⟩
  ·cases h
 |.cons (.r g j) t,ws,a,b,h,hr=>by
  obtain⟨v,us,rfl,h1,h2⟩:=hr;simp only[segs]at h;cases hg:isTx g with
  |false=>rw[hg]at h;cases h
  |true=>
   rw[hg]at h;simp only[cond_true]at h;split at h
   ·rename_i a' b' ht
    simp only[Option.some.injEq,Prod.mk.injEq]at h;obtain⟨bs,k1,k2,k3⟩:=segs_ok ht h2;obtain⟨E,-,rfl⟩:=RV.tx hg h1;have hz:=decB_size (g-40) (opX E);obtain⟨e1,e2⟩:=h;simp only[Nat.add_eq]at e1 e2;exact⟨(decB (dbl (g-40) (opX E))).data.toList++bs,by simp only[catB,k1,Option.map_some],by rw[List.length_append,decB_list];omega,by rw[List.length_append,decB_list];omega⟩
   ·cases h
 |.cons .un t,ws,a,b,h,_=>by simp[segs]at h
 |.cons .nil t,ws,a,b,h,_=>by simp[segs]at h
 |.cons (.cons _ _) t,ws,a,b,h,_=>by simp[segs]at h
 |.cons (.v _) t,ws,a,b,h,_=>by simp[segs]at h
 |.cons (.k _ _ _) t,ws,a,b,h,_=>by simp[segs]at h
 |.cons (.sl ..) t,ws,a,b,h,_=>by simp[segs]at h
 |.cons (.ptr _ _) t,ws,a,b,h,_=>by simp[segs]at h
 |.cons (.b _) t,ws,a,b,h,_=>by simp[segs]at h
 |.cons (.i _ _) t,ws,a,b,h,_=>by simp[segs]at h
 |.un,ws,a,b,h,_=>by simp[segs]at h
 |.v _,ws,a,b,h,_=>by simp[segs]at h
 |.r _ _,ws,a,b,h,_=>by simp[segs]at h
 |.k _ _ _,ws,a,b,h,_=>by simp[segs]at h
 |.s _ _,ws,a,b,h,_=>by simp[segs]at h
 |.sl ..,ws,a,b,h,_=>by simp[segs]at h
 |.ptr _ _,ws,a,b,h,_=>by simp[segs]at h
 |.b _,ws,a,b,h,_=>by simp[segs]at h
 |.i _ _,ws,a,b,h,_=>by simp[segs]at h
theorem catB_app:∀{us vs:List Value} {a b:List UInt8},catB us=some a→catB vs=some b→catB (us++vs)=some (a++b)
 |[],vs,a,b,h,k=>by simp only[catB,Option.some.injEq]at h;subst h;simpa using k
 |.string s::us,vs,a,b,h,k=>by
  simp only[catB]at h;cases hq:catB us with
  |none=>rw[hq]at h;cases h
  |some c=>
   rw[hq]at h;simp only[Option.map_some,Option.some.injEq]at h;subst h;simp only[List.cons_append,catB,catB_app hq k,Option.map_some,List.append_assoc]
theorem rd_bI{o:Oper}{ev:Operand→Value}{w:World}{op:BinOp}{t u:TypeId}{x y:Operand}(ho:o.op=.binOp op t x y u){k k2:IntKind}{n m:Int}{v:Value}(hk:k2=k∨op=.shl∨op=.shr)(h:bI op k n m=some v){r:AV}(hr:RV ι r v)(hx:ev x=.int k n)(hy:ev y=.int k2 m):Rd P ι w ev o r:=by
 have:=purely_run (bI_any (P:=P) (t:=t) hk h x y) w;refine⟨v,?_,hr⟩;simp only[execOp,ho,hx,hy];simp only[Sem.run_bind]at this ⊢;rw[this];rfl
theorem dec_toList(z:Int):(decB z).toList=Lib.itoa z:=by rw[ByteArray.toList_eq];exact decB_list z
theorem rd_sE{t u:TypeId}{x y:Operand}{s1 s2:ByteArray}(ho:o.op=.binOp .eql t x y u)(hx:ev x=.string s1)(hy:ev y=.string s2):Rd P ι w ev o (.b (s1.toList==s2.toList)):=by
 refine⟨.bool (s1.toList==s2.toList),?_,rfl⟩;simp only[execOp,ho,hx,hy,Sem.run_bind];rfl
theorem rd_sN{t u:TypeId}{x y:Operand}{s1 s2:ByteArray}(ho:o.op=.binOp .neq t x y u)(hx:ev x=.string s1)(hy:ev y=.string s2):Rd P ι w ev o (.b (!(s1.toList==s2.toList))):=by
 refine⟨.bool (!(s1.toList==s2.toList)),?_,rfl⟩;simp only[execOp,ho,hx,hy,Sem.run_bind];rfl
theorem cat_rd{t u:TypeId}{x y:Operand}{s1 s2:ByteArray}(ho:o.op=.binOp .add t x y u)(hx:ev x=.string s1)(hy:ev y=.string s2){l r:AV}{ws:List Value}{bs:List UInt8}(hk:catK l=some r)(hr:RL ι l ws)(hb:catB ws=some bs)(e:bs=s1.data.toList++s2.data.toList):Rd P ι w ev o r:=by
 unfold catK at hk;split at hk
 ·rename_i a b hs
  cases hc:Nat.ble b 1099511627776 with
  |false=>rw[hc]at hk;cases hk
  |true=>
   rw[hc]at hk;simp only[cond_true,Option.some.injEq]at hk;subst hk;obtain⟨bs',k1,-,k3⟩:=segs_ok hs hr;rw[hb]at k1;cases k1;have hb2:=Nat.le_of_ble_eq_true hc;have hsz:s1.size+s2.size≤9223372036854775807:=by
    have:bs.length=s1.size+s2.size:=by rw[e,List.length_append];rfl
    omega
   refine⟨.string (s1++s2),?_,ws,hr,bs,hb,?_⟩
   ·have hbn:(binOp .add t (ev x) (ev y)).run P w=.ok (.string (s1++s2)) w:=by
     rw[hx,hy,binOp_string_add];exact run_string_add_sum _ s1 s2 hsz
    have hg:(eqGuard .add t x y (ev x) (ev y)).run P w=.ok () w:=rfl;simp only[execOp,ho,Sem.run_bind,hg,hbn,Result.andThen];rfl
   ·have:s1++s2=⟨bs.toArray⟩:=by
     apply ByteArray.ext;rw[e,ByteArray.data_append];apply Array.toList_inj.1;simp
    rw[this]
 ·cases hk
theorem segs_tail{x l:AV}{ab:Nat×Nat}(h:segs (.cons x l)=some ab):∃ab',segs l=some ab':=by
 cases hq:segs l with
 |some q=>exact⟨q,rfl⟩
 |none=>
  exfalso;cases x<;>simp[segs,hq]at h
theorem snoc_rl{k:AV}:∀{ws:List Value} {ab:Nat×Nat} {y:AV},segs k=some ab→RL ι k ws→∀{v:Value},RV ι y v→RL ι (snoc k y) (ws++[v]):=by
 induction k with
 |cons x l _ ih=>
  intro ws ab y hs hr v hv;obtain⟨u,us,rfl,h1,h2⟩:=hr;obtain⟨ab',h3⟩:=segs_tail hs;exact⟨u,us++[v],rfl,h1,ih h3 h2 hv⟩
 |nil=>
  intro ws ab y _ hr v hv;have:ws=[]:=hr;subst this;exact⟨v,[],rfl,hv,rfl⟩
 |_=>intro ws ab y hs;simp[segs]at hs
theorem itv_rl{lb ub:Nat}{r:AV}{z:Int}(h:itv lb ub=some r)(h1:(lb:Int)≤z)(h2:z≤ub):RV ι r (.int .i64 z)∧z≤1099511627776:=by
 unfold itv at h;cases hc:Nat.ble ub 1099511627776 with
 |false=>rw[hc]at h;cases h
 |true=>
  rw[hc]at h;simp only[cond_true,Option.some.injEq]at h;subst h;have hu:=Nat.le_of_ble_eq_true hc;exact⟨⟨[.int .i64 (ub:Int)],⟨_,[],rfl,⟨rfl,by rw[IntKind.wrap_i64];show _=Int.ofNat ub;simp only[Int.ofNat_eq_natCast];omega⟩,rfl⟩,z,ub,rfl,h1,h2,hu,rfl⟩,by omega⟩
theorem RV.cat{v:Value}{t:Nat}{l:AV}(h:RV ι (.k 4 t l) v):∃ws bs,RL ι l ws∧catB ws=some bs∧v=.string ⟨bs.toArray⟩:=by
 obtain⟨ws,h1,bs,h2,h3⟩:=h;exact⟨ws,bs,h1,h2,by simpa using h3⟩
theorem RV.itv{v:Value}{lb ub:Nat}{l:AV}(h:RV ι (.k 6 lb l) v)(hu:ubd l=some ub):∃z:Int,v=.int .i64 z∧(lb:Int)≤z∧z≤ub∧ub≤1099511627776:=by
 obtain⟨ws,h1,z,ub',h2,h3,h4,h5,h6⟩:=h;unfold ubd at hu;split at hu
 ·cases hu;obtain⟨v',ws',rfl,h7,h8⟩:=h1;have e1:[v']=[Value.int .i64 (Int.ofNat ub)]:=h7.1;have e2:v'=Value.int .i64 (ub':Int):=by simpa using(List.cons.inj h2).1
  have:ub=ub':=by
   rw[e2]at e1;simp at e1;omega
  subst this;exact⟨z,by simpa using h6,h3,h4,h5⟩
 ·cases hu
theorem cat_s{t u:TypeId}{x y:Operand}{k y' r:AV}{w1:List Value}{b1:List UInt8}{s2:ByteArray}(ho:o.op=.binOp .add t x y u)(hk:catS k y'=some r)(h1:RL ι k w1)(h2:catB w1=some b1)(hx:ev x=.string ⟨b1.toArray⟩)(hy:ev y=.string s2)(h3:RV ι y' (.string s2)):Rd P ι w ev o r:=by
 unfold catS at hk;split at hk
 ·rename_i ab hs
  have hc:=catB_app h2 (show catB [.string s2]=some (s2.data.toList++[]) from rfl);exact cat_rd ho hx hy hk (snoc_rl hs h1 h3) hc (by simp)
 ·cases hk
theorem wrap_small{z:Int}(h1:0≤z)(h2:z≤1099511627776):IntKind.i64.wrap z=z:=by rw[IntKind.wrap_i64];omega
theorem rd_cmp{op:BinOp}{t u:TypeId}{x y:Operand}{a b:Int}{c:Bool}(ho:o.op=.binOp op t x y u)(hx:ev x=.int .i64 a)(hy:ev y=.int .i64 b)(h:bI op .i64 a b=some (.bool c)):Rd P ι w ev o (.b c):=rd_bI ho (.inl rfl) h rfl hx hy
theorem b_gtr(a b:Int):bI .gtr .i64 a b=some (.bool (decide (b<a))):=by simp[bI,binOp,Op.intCmp];rfl
theorem b_lss(a b:Int):bI .lss .i64 a b=some (.bool (decide (a<b))):=by simp[bI,binOp,Op.intCmp];rfl
theorem b_leq(a b:Int):bI .leq .i64 a b=some (.bool (decide (a≤b))):=by simp[bI,binOp,Op.intCmp];rfl
theorem b_geq(a b:Int):bI .geq .i64 a b=some (.bool (decide (b≤a))):=by simp[bI,binOp,Op.intCmp];rfl
theorem b_eql(a:Int):bI .eql .i64 a a=some (.bool true):=by simp[bI,binOp,Op.intCmp];rfl
theorem b_neq(a:Int):bI .neq .i64 a a=some (.bool false):=by simp[bI,binOp,Op.intCmp];rfl
theorem b_add(a b:Int):bI .add .i64 a b=some (.int .i64 (IntKind.i64.wrap (a+b))):=by simp[bI,binOp,Op.intArith];rfl
theorem b_mul(a b:Int):bI .mul .i64 a b=some (.int .i64 (IntKind.i64.wrap (a*b))):=by simp[bI,binOp,Op.intArith];rfl
theorem bif_two{a b:Bool}{x y r:AV}(h:(bif a then some x else bif b then some y else none)=some r):(a=true∧r=x)∨(b=true∧r=y):=by
 cases a with
 |true=>cases h;exact .inl ⟨rfl,rfl⟩
 |false=>
  cases b with
  |true=>cases h;exact .inr ⟨rfl,rfl⟩
  |false=>cases h
theorem itL_ok{op:BinOp}{lb ub n:Nat}{r:AV}(h:itL op lb ub n=some r){t u:TypeId}{x y:Operand}(ho:o.op=.binOp op t x y u){z:Int}(hx:ev x=.int .i64 z)(hy:ev y=.int .i64 (Int.ofNat n))(h1:(lb:Int)≤z)(h2:z≤ub):Rd P ι w ev o r:=by
 unfold itL at h;split at h
 ·rcases bif_two h with⟨q,rfl⟩|⟨q,rfl⟩
  ·have:=Nat.le_of_ble_eq_true q;exact rd_cmp ho hx hy (by rw[b_gtr];simp only[Int.ofNat_eq_natCast,Option.some.injEq,Value.bool.injEq,decide_eq_false_iff_not];omega)
  ·have:=blt_lt q;exact rd_cmp ho hx hy (by rw[b_gtr];simp only[Int.ofNat_eq_natCast,Option.some.injEq,Value.bool.injEq,decide_eq_true_eq];omega)
 ·rcases bif_two h with⟨q,rfl⟩|⟨q,rfl⟩
  ·have:=Nat.le_of_ble_eq_true q;exact rd_cmp ho hx hy (by rw[b_lss];simp only[Int.ofNat_eq_natCast,Option.some.injEq,Value.bool.injEq,decide_eq_false_iff_not];omega)
  ·have:=blt_lt q;exact rd_cmp ho hx hy (by rw[b_lss];simp only[Int.ofNat_eq_natCast,Option.some.injEq,Value.bool.injEq,decide_eq_true_eq];omega)
 ·rcases bif_two h with⟨q,rfl⟩|⟨q,rfl⟩
  ·have:=Nat.le_of_ble_eq_true q;exact rd_cmp ho hx hy (by rw[b_leq];simp only[Int.ofNat_eq_natCast,Option.some.injEq,Value.bool.injEq,decide_eq_true_eq];omega)
  ·have:=blt_lt q;exact rd_cmp ho hx hy (by rw[b_leq];simp only[Int.ofNat_eq_natCast,Option.some.injEq,Value.bool.injEq,decide_eq_false_iff_not];omega)
 ·rcases bif_two h with⟨q,rfl⟩|⟨q,rfl⟩
  ·have:=Nat.le_of_ble_eq_true q;exact rd_cmp ho hx hy (by rw[b_geq];simp only[Int.ofNat_eq_natCast,Option.some.injEq,Value.bool.injEq,decide_eq_true_eq];omega)
  ·have:=blt_lt q;exact rd_cmp ho hx hy (by rw[b_geq];simp only[Int.ofNat_eq_natCast,Option.some.injEq,Value.bool.injEq,decide_eq_false_iff_not];omega)
 ·obtain⟨k1,k2⟩:=itv_rl (ι:=ι) (z:=z+n) h (by simp only[Nat.add_eq];omega) (by simp only[Nat.add_eq];omega);exact rd_bI ho (.inl rfl) (show _=some (Value.int .i64 (z+n)) by rw[b_add];simp only[Int.ofNat_eq_natCast];rw[wrap_small (by omega) k2]) k1 hx hy
 ·have m1:((lb*n:Nat):Int)≤z*n:=by rw[Int.natCast_mul];exact Int.mul_le_mul_of_nonneg_right h1 (by omega)
  have m2:z*n≤((ub*n:Nat):Int):=by rw[Int.natCast_mul];exact Int.mul_le_mul_of_nonneg_right h2 (by omega)
  obtain⟨k1,k2⟩:=itv_rl (ι:=ι) (z:=z*n) h m1 m2;exact rd_bI ho (.inl rfl) (show _=some (Value.int .i64 (z*n)) by rw[b_mul];simp only[Int.ofNat_eq_natCast];rw[wrap_small (Int.le_trans (Int.natCast_nonneg _) m1) k2]) k1 hx hy
 ·cases h
theorem itR_ok{op:BinOp}{lb ub n:Nat}{r:AV}(h:itR op n lb ub=some r){t u:TypeId}{x y:Operand}(ho:o.op=.binOp op t x y u){z:Int}(hx:ev x=.int .i64 (Int.ofNat n))(hy:ev y=.int .i64 z)(h1:(lb:Int)≤z)(h2:z≤ub):Rd P ι w ev o r:=by
 unfold itR at h;split at h
 ·rcases bif_two h with⟨q,rfl⟩|⟨q,rfl⟩
  ·have:=Nat.le_of_ble_eq_true q;exact rd_cmp ho hx hy (by rw[b_leq];simp only[Int.ofNat_eq_natCast,Option.some.injEq,Value.bool.injEq,decide_eq_true_eq];omega)
  ·have:=blt_lt q;exact rd_cmp ho hx hy (by rw[b_leq];simp only[Int.ofNat_eq_natCast,Option.some.injEq,Value.bool.injEq,decide_eq_false_iff_not];omega)
 ·obtain⟨k1,k2⟩:=itv_rl (ι:=ι) (z:=n+z) h (by simp only[Nat.add_eq];omega) (by simp only[Nat.add_eq];omega);exact rd_bI ho (.inl rfl) (show _=some (Value.int .i64 (n+z)) by rw[b_add];simp only[Int.ofNat_eq_natCast];rw[wrap_small (by omega) k2]) k1 hx hy
 ·have m1:((n*lb:Nat):Int)≤n*z:=by rw[Int.natCast_mul];exact Int.mul_le_mul_of_nonneg_left h1 (by omega)
  have m2:n*z≤((n*ub:Nat):Int):=by rw[Int.natCast_mul];exact Int.mul_le_mul_of_nonneg_left h2 (by omega)
  obtain⟨k1,k2⟩:=itv_rl (ι:=ι) (z:=n*z) h m1 m2;exact rd_bI ho (.inl rfl) (show _=some (Value.int .i64 (n*z)) by rw[b_mul];simp only[Int.ofNat_eq_natCast];rw[wrap_small (Int.le_trans (Int.natCast_nonneg _) m1) k2]) k1 hx hy
 ·cases h
theorem opq_ok{op:BinOp}{a b r:AV}(h:opq op a b=some r){t u:TypeId}{x y:Operand}(ho:o.op=.binOp op t x y u)(hx:RV ι a (ev x))(hy:RV ι b (ev y)):Rd P ι w ev o r:=by
 unfold opq at h;split at h
 ·rename_i g i g' j
  cases hc:and (and (Nat.beq g g') (Nat.beq i j)) (or (isNu g) (isTx g)) with
  |false=>rw[hc]at h;cases h
  |true=>
   rw[hc]at h;simp only[cond_true]at h;obtain⟨c1,c2⟩:=and_ok hc;obtain⟨c3,c4⟩:=and_ok c1;have:=Nat.eq_of_beq_eq_true c3;subst this;have:=Nat.eq_of_beq_eq_true c4;subst this;cases hn:isNu g with
   |true=>
    obtain⟨E,e1,e2⟩:=RV.nu hn hx;obtain⟨E',e3,e4⟩:=RV.nu hn hy;rw[e1]at e3;cases e3;split at h
    ·cases h;exact rd_bI ho (.inl rfl) (b_eql _) rfl e2 e4
    ·cases h;exact rd_bI ho (.inl rfl) (b_neq _) rfl e2 e4
    ·rw[hn]at h;cases hb:Nat.blt g 39 with
     |false=>rw[hb]at h;cases h
     |true=>
      rw[hb]at h;cases h;have hg10:=Nat.le_of_ble_eq_true (and_ok hn).1;have hlt:=blt_lt hb;have hn':isNu (Nat.succ g)=true:=by
       unfold isNu;rw[Nat.ble_eq_true_of_le (show 10≤Nat.succ g by omega),show Nat.blt (Nat.succ g) 40=true from Nat.ble_eq_true_of_le (show g+1+1≤40 by omega)];rfl
      have hm:=nu_mk hn' e1;rw[show Nat.succ g-10=(g-10)+1 by omega,←dbl_add]at hm;exact rd_bI ho (.inl rfl) (b_add _ _) hm e2 e4
    ·cases h
   |false=>
    rw[hn]at c2;have ht:isTx g=true:=c2;obtain⟨E,e1,e2⟩:=RV.tx ht hx;obtain⟨E',e3,e4⟩:=RV.tx ht hy;rw[e1]at e3;cases e3;split at h
    ·cases h;have:=rd_sE (P:=P) (ι:=ι) (w:=w) ho e2 e4;rwa[show((decB (dbl (g-40) (opX E))).toList==(decB (dbl (g-40) (opX E))).toList)=true by simp]at this
    ·cases h;have:=rd_sN (P:=P) (ι:=ι) (w:=w) ho e2 e4;rwa[show(!(decB (dbl (g-40) (opX E))).toList==(decB (dbl (g-40) (opX E))).toList)=false by simp]at this
    ·rw[hn]at h;cases h
    ·cases h
 ·rename_i g i l n
  cases ht:isTx g with
  |false=>rw[ht]at h;cases h
  |true=>
   rw[ht]at h;simp only[cond_true]at h;obtain⟨E,e1,e2⟩:=RV.tx ht hx;split at h
   ·cases hc:numC l n with
    |false=>rw[hc]at h;cases h
    |true=>
     rw[hc]at h;cases h;have:=rd_sE (P:=P) (ι:=ι) (w:=w) ho e2 hy.str;rwa[dec_toList,toList_bs,show(Lib.itoa (dbl (g-40) (opX E))==bl l n)=false from beq_eq_false_iff_ne.2 (numC_ne hc _).symm]at this
   ·cases hc:numC l n with
    |false=>rw[hc]at h;cases h
    |true=>
     rw[hc]at h;cases h;have:=rd_sN (P:=P) (ι:=ι) (w:=w) ho e2 hy.str;rwa[dec_toList,toList_bs,show(Lib.itoa (dbl (g-40) (opX E))==bl l n)=false from beq_eq_false_iff_ne.2 (numC_ne hc _).symm]at this
   ·exact cat_rd ho e2 hy.str h ⟨_,_,rfl,hx,_,_,rfl,hy,rfl⟩ (by rw[e2,hy.str];rfl) (by simp)
   ·cases h
 ·rename_i l n g i
  cases ht:isTx g with
  |false=>rw[ht]at h;cases h
  |true=>
   rw[ht]at h;simp only[cond_true]at h;obtain⟨E,e1,e2⟩:=RV.tx ht hy;split at h
   ·cases hc:numC l n with
    |false=>rw[hc]at h;cases h
    |true=>
     rw[hc]at h;cases h;have:=rd_sE (P:=P) (ι:=ι) (w:=w) ho hx.str e2;rwa[dec_toList,toList_bs,show(bl l n==Lib.itoa (dbl (g-40) (opX E)))=false from beq_eq_false_iff_ne.2 (numC_ne hc _)]at this
   ·cases hc:numC l n with
    |false=>rw[hc]at h;cases h
    |true=>
     rw[hc]at h;cases h;have:=rd_sN (P:=P) (ι:=ι) (w:=w) ho hx.str e2;rwa[dec_toList,toList_bs,show(bl l n==Lib.itoa (dbl (g-40) (opX E)))=false from beq_eq_false_iff_ne.2 (numC_ne hc _)]at this
   ·exact cat_rd ho hx.str e2 h ⟨_,_,rfl,hx,_,_,rfl,hy,rfl⟩ (by rw[e2,hx.str];rfl) (by simp)
   ·cases h
 ·split at h
  ·obtain⟨ws,bs,k1,k2,k3⟩:=RV.cat hx;exact cat_s ho h k1 k2 k3 hy.str (by rw[←hy.str];exact hy)
  ·cases h
 ·rename_i k g i
  split at h
  ·cases ht:isTx g with
   |false=>rw[ht]at h;cases h
   |true=>
    rw[ht]at h;obtain⟨E,e1,e2⟩:=RV.tx ht hy;obtain⟨ws,bs,k1,k2,k3⟩:=RV.cat hx;exact cat_s ho h k1 k2 k3 e2 (by rw[←e2];exact hy)
  ·cases h
 ·rename_i l n _ k
  split at h
  ·obtain⟨ws,bs,k1,k2,k3⟩:=RV.cat hy;exact cat_rd (bs:=(bsOf l n).data.toList++bs) ho hx.str k3 h ⟨_,_,rfl,hx,k1⟩ (by rw[hx.str];simp only[catB,k2,Option.map_some]) (by simp)
  ·cases h
 ·rename_i g j n
  cases hc:and (isNu g) (Nat.beq n 0) with
  |false=>rw[hc]at h;cases h
  |true=>
   rw[hc]at h;simp only[cond_true]at h;obtain⟨c1,c2⟩:=and_ok hc;obtain⟨E,-,e2⟩:=RV.nu c1 hx;have:=Nat.eq_of_beq_eq_true c2;subst this;split at h
   ·cases h;exact rd_bI ho (.inl rfl) (b_mul _ _) (by rw[show(Int.ofNat 0)=0 from rfl,Int.mul_zero];exact⟨rfl,rfl⟩) e2 hy.int.1
   ·cases h
 ·rename_i n g j
  cases hc:and (isNu g) (Nat.beq n 0) with
  |false=>rw[hc]at h;cases h
  |true=>
   rw[hc]at h;simp only[cond_true]at h;obtain⟨c1,c2⟩:=and_ok hc;obtain⟨E,-,e2⟩:=RV.nu c1 hy;have:=Nat.eq_of_beq_eq_true c2;subst this;split at h
   ·cases h;exact rd_bI ho (.inl rfl) (b_mul _ _) (by rw[show(Int.ofNat 0)=0 from rfl,Int.zero_mul];exact⟨rfl,rfl⟩) hx.int.1 e2
   ·cases h
 ·rename_i lb k n
  split at h
  ·rename_i ub hu
   obtain⟨z,k1,k2,k3,-⟩:=RV.itv hx hu;exact itL_ok h ho k1 hy.int.1 k2 k3
  ·cases h
 ·rename_i n lb k
  split at h
  ·rename_i ub hu
   obtain⟨z,k1,k2,k3,-⟩:=RV.itv hy hu;exact itR_ok h ho hx.int.1 k1 k2 k3
  ·cases h
 ·cases h
end Go.Proofs.YtglihimiidiacaaGreatDoor.Ev8
