import Derived.Test.YtglihimiidiacaaGreatDoorEf
import Derived.LoopNIn
import Derived.RangeFuncRecord
import Derived.Lib.Bytealg
namespace Go.Proofs.YtglihimiidiacaaGreatDoor.Ev8
open Go
theorem kOp_le3(ti:TypeId→Bool)(op:Op):kOp ti op≤3:=by
 cases op<;>first|(show(0:Nat)≤3;omega)|(show(1:Nat)≤3;omega)|(show(2:Nat)≤3;omega)|(show(3:Nat)≤3;omega)|skip
 ·rename_i d _;show(bif ti d then 0 else 3)≤3;cases ti d<;>decide
 ·rename_i c;simp only[kOp];split<;>omega
theorem trj_of{ti:TypeId→Bool}{ops:List Oper}{bs:List Nat}:∀(pl:List (Nat×Bool)) (s s':Ps),pl.foldl (fun s q=>match s with|some s=>plStep ti ops bs q s|none=>none) (some s)=some s'→∃S:Nat→Ps,S 0=s∧S pl.length=s'∧∀p q,pl[p]?=some q→plStep ti ops bs q (S p)=some (S (p+1))
 |[],s,s',h=>by cases h;exact⟨fun _=>s,rfl,rfl,fun p q h=>by simp at h⟩
 |q::pl,s,s',h=>by
  have hn:∀l:List (Nat×Bool),l.foldl (fun s q=>match s with|some s=>plStep ti ops bs q s|none=>none) (none:Option Ps)=none:=by
   intro l;induction l with
   |nil=>rfl
   |cons a l ih=>exact ih
  have h':pl.foldl (fun s q=>match s with|some s=>plStep ti ops bs q s|none=>none) (plStep ti ops bs q s)=some s':=h;cases hs:plStep ti ops bs q s with
  |none=>rw[hs,hn]at h';cases h'
  |some s1=>
   rw[hs]at h';obtain⟨S,h1,h2,h3⟩:=trj_of pl s1 s' h';refine⟨fun p=>match p with|0=>s|p+1=>S p,rfl,h2,fun p q' hp=>?_⟩;cases p with
   |zero=>simp only[List.getElem?_cons_zero,Option.some.injEq]at hp;subst hp;simp only;rw[h1];exact hs
   |succ p=>exact h3 p q' (by simpa using hp)
theorem step_re{ti:TypeId→Bool}{ops:List Oper}{bs:List Nat}{i:Nat}{s s':Ps}(h:plStep ti ops bs (i,true) s=some s'):∃o m,ops[i]?=some o∧bs[i]?=some m∧s.D.testBit i=true∧kOp ti o.op=1∧opsB ops o m=true∧s'.D=s.D∧s'.Ch=s.Ch∧s'.ea=s.ea∧∀k,k≠i→s'.Pd.testBit k=s.Pd.testBit k:=by
 unfold plStep at h;split at h
 ·rename_i o m ho hm
  simp only[cond_true]at h;cases hc:(s.D.testBit i && Nat.beq (kOp ti o.op) 1 && opsB ops o m) with
  |false=>rw[hc]at h;cases h
  |true=>
   rw[hc]at h;cases h;obtain⟨h1,h3⟩:=and_ok hc;obtain⟨h1,h2⟩:=and_ok h1;refine⟨o,m,ho,hm,h1,Nat.eq_of_beq_eq_true h2,h3,rfl,rfl,rfl,fun k hk=>?_⟩;show(bif s.Pd.testBit i then s.Pd.xor (bitOf i) else s.Pd).testBit k=_;cases hb:s.Pd.testBit i with
   |false=>rfl
   |true=>simp only[cond_true];rw[bit_xor,bit_of];simp[Ne.symm hk]
 ·cases h
theorem bits_fold:∀(l:List Nat) (a0 j:Nat),(a0.testBit j=true∨j∈l)→(l.foldl (fun a j=>Nat.lor a (bitOf j)) a0).testBit j=true
 |[],a0,j,h=>by rcases h with h|h;exact h;cases h
 |x::l,a0,j,h=>by
  refine bits_fold l (Nat.lor a0 (bitOf x)) j ?_;rcases h with h|h
  ·left;rw[bit_or,h];rfl
  ·rcases List.mem_cons.1 h with h|h
   ·left;subst h;simp[bit_of]
   ·exact .inr h
theorem step_op{ti:TypeId→Bool}{ops:List Oper}{bs:List Nat}{i:Nat}{s s':Ps}(h:plStep ti ops bs (i,false) s=some s'):∃o m,ops[i]?=some o∧bs[i]?=some m∧s.D.testBit i=false∧sub m s.D=true∧opsIn ops bs i o m=true∧grdIn ti ops o m=true∧
 (∀t j,Operand.tmp t∈o.op.operands.toList→dstAt ops t=some j→∀x∈s.ea,x.1=j→sub x.2 m=true)∧s'.D=Nat.lor s.D (bitOf i)∧
 ((kOp ti o.op=0∧s'.Ch=s.Ch∧s'.Pd=s.Pd∧s'.ea=s.ea)∨(kOp ti o.op=1∧sub s.Ch m=true∧s'.Ch=s.Ch∧s'.Pd=s.Pd∧s'.ea=s.ea)∨
  (kOp ti o.op=2∧s.Pd=0∧(sub s.Ch m=true∨o.guard=none)∧s'.Ch=Nat.lor s.Ch (bitOf i)∧s'.Pd=s.Pd∧s'.ea=(bif sub s.Ch m then s.ea else (i,Nat.lor s.Ch (bitOf i))::s.ea))∨
  (kOp ti o.op=3∧s.Pd=0∧sub s.Ch m=true∧s'.Ch=Nat.lor s.Ch (bitOf i)∧s'.ea=s.ea∧∀j oj,ops[j]?=some oj→kOp ti oj.op=1→s.D.testBit j=true→m.testBit j=false→s'.Pd.testBit j=true)):=by
 unfold plStep at h;split at h
 ·rename_i o m ho hm
  simp only[cond_false]at h;generalize hc:(and (and (not (s.D.testBit i)) (sub m s.D)) (and (and (opsIn ops bs i o m) (grdIn ti ops o m)) (o.op.operands.toList.all fun x=>match x with|.tmp t=>(match dstAt ops t with|some j=>s.ea.all fun p=>or (not (Nat.beq p.1 j)) (sub p.2 m)|none=>true)|_=>true)))=c at h;cases c with
  |false=>cases h
  |true=>
   simp only[cond_true]at h;obtain⟨h1,h2⟩:=and_ok hc;obtain⟨h1,h3⟩:=and_ok h1;obtain⟨h2,h5⟩:=and_ok h2;obtain⟨h2,h4⟩:=and_ok h2;have h5':∀t j,Operand.tmp t∈o.op.operands.toList→dstAt ops t=some j→∀x∈s.ea,x.1=j→sub x.2 m=true:=fun t j ht hj x hx he=>by
    have:=List.all_eq_true.1 h5 _ ht;simp only[hj]at this;have:=List.all_eq_true.1 this x hx;rw[he,Nat.beq_refl]at this;simpa using this
   refine⟨o,m,ho,hm,by simpa using h1,h3,h2,h4,h5',?_⟩;split at h
   ·rename_i hk;cases h;exact⟨rfl,.inl ⟨hk,rfl,rfl,rfl⟩⟩
   ·rename_i hk
    cases hs:sub s.Ch m with
    |false=>rw[hs]at h;cases h
    |true=>rw[hs]at h;cases h;exact⟨rfl,.inr (.inl ⟨hk,rfl,rfl,rfl,rfl⟩)⟩
   ·rename_i hk
    generalize hc2:(and (Nat.beq s.Pd 0) (or (sub s.Ch m) (match o.guard with|none=>true|some _=>false)))=c2 at h;cases c2 with
    |false=>cases h
    |true=>
     cases h;obtain⟨k1,k2⟩:=and_ok hc2;refine⟨rfl,.inr (.inr (.inl ⟨hk,Nat.eq_of_beq_eq_true k1,?_,rfl,rfl,rfl⟩))⟩;cases hs:sub s.Ch m with
     |true=>exact .inl rfl
     |false=>
      rw[hs]at k2;cases hg:o.guard with
      |none=>exact .inr rfl
      |some g=>rw[hg]at k2;cases k2
   ·rename_i hk0 hk1 hk2
    generalize hc2:(and (Nat.beq s.Pd 0) (sub s.Ch m))=c2 at h;cases c2 with
    |false=>cases h
    |true=>
     cases h;obtain⟨k1,k2⟩:=and_ok hc2;have hle:=kOp_le3 ti o.op;have hk:kOp ti o.op=3:=by
      have a0:kOp ti o.op≠0:=hk0;have a1:kOp ti o.op≠1:=hk1;have a2:kOp ti o.op≠2:=hk2;omega
     refine⟨rfl,.inr (.inr (.inr ⟨hk,Nat.eq_of_beq_eq_true k1,k2,rfl,rfl,fun j oj e1 e2 e3 e4=>?_⟩))⟩;refine bits_fold _ _ _ (.inr (List.mem_filter.2 ⟨List.mem_range.2 (List.getElem?_eq_some_iff.1 e1).1,?_⟩));simp[e1,e2,e3,e4]
 ·cases h
section
variable {ops:Array Oper} {bs:List Nat} {pl:List (Nat×Bool)} {S:Nat→Ps}
theorem trD(h0:S 0=⟨0,0,0,[]⟩)(ht:∀p q,pl[p]?=some q→plStep cvT ops.toList bs q (S p)=some (S (p+1))):∀p,p≤pl.length→∀i,(S p).D.testBit i=true↔∃p'<p,pl[p']?=some (i,false)
 |0,_,i=>by rw[h0];simp
 |p+1,hp,i=>by
  have ih:=trD h0 ht p (by omega) i;obtain⟨⟨k,b⟩,hk⟩:∃q,pl[p]?=some q:=⟨_,List.getElem?_eq_getElem (by omega)⟩;have hs:=ht p _ hk;have key:(S (p+1)).D.testBit i=true↔(S p).D.testBit i=true∨pl[p]?=some (i,false):=by
   cases b with
   |true=>
    obtain⟨o,m,-,-,-,-,-,hD,-⟩:=step_re hs;rw[hD,hk];simp
   |false=>
    obtain⟨o,m,-,-,-,-,-,-,-,hD,-⟩:=step_op hs;rw[hD,hk,bit_or,bit_of];simp
  rw[key,ih];constructor
  ·rintro(⟨p',h1,h2⟩|h)
   ·exact⟨p',by omega,h2⟩
   ·exact⟨p,by omega,h⟩
  ·rintro⟨p',h1,h2⟩;by_cases e:p'=p
   ·subst e;exact .inr h2
   ·exact .inl ⟨p',by omega,h2⟩
theorem trS(ht:∀p q,pl[p]?=some q→plStep cvT ops.toList bs q (S p)=some (S (p+1))){p:Nat}(hp:p<pl.length):(∀c,(S p).Ch.testBit c=true→(S (p+1)).Ch.testBit c=true)∧∀x∈(S p).ea,x∈(S (p+1)).ea:=by
 obtain⟨⟨k,b⟩,hk⟩:∃q,pl[p]?=some q:=⟨_,List.getElem?_eq_getElem hp⟩;have hs:=ht p _ hk;cases b with
 |true=>
  obtain⟨o,m,-,-,-,-,-,-,hC,hE,-⟩:=step_re hs;rw[hC,hE];exact⟨fun _ h=>h,fun _ h=>h⟩
 |false=>
  obtain⟨o,m,-,-,-,-,-,-,-,-,hx⟩:=step_op hs;rcases hx with⟨-,a,-,b⟩|⟨-,-,a,-,b⟩|⟨-,-,-,a,-,b⟩|⟨-,-,-,a,b,-⟩
  ·rw[a,b];exact⟨fun _ h=>h,fun _ h=>h⟩
  ·rw[a,b];exact⟨fun _ h=>h,fun _ h=>h⟩
  ·rw[a,b];refine⟨fun c h=>by rw[bit_or,h];rfl,fun x h=>?_⟩;cases sub (S p).Ch m
   ·exact List.mem_cons_of_mem _ h
   ·exact h
  ·rw[a,b];exact⟨fun c h=>by rw[bit_or,h];rfl,fun _ h=>h⟩
theorem trM(_h0:S 0=⟨0,0,0,[]⟩)(ht:∀p q,pl[p]?=some q→plStep cvT ops.toList bs q (S p)=some (S (p+1))){p:Nat}:∀{q:Nat},p≤q→q≤pl.length→(∀c,(S p).Ch.testBit c=true→(S q).Ch.testBit c=true)∧∀x∈(S p).ea,x∈(S q).ea:=by
 intro q;induction q with
 |zero=>
  intro h _;have:p=0:=by omega
  subst this;exact⟨fun _ h=>h,fun _ h=>h⟩
 |succ q ih=>
  intro h hq;by_cases e:p=q+1
  ·subst e;exact⟨fun _ h=>h,fun _ h=>h⟩
  ·obtain⟨a1,a2⟩:=ih (by omega) (by omega);obtain⟨b1,b2⟩:=trS ht (show q<pl.length by omega);exact⟨fun c hc=>b1 c (a1 c hc),fun x hx=>b2 x (a2 x hx)⟩
theorem trC(h0:S 0=⟨0,0,0,[]⟩)(ht:∀p q,pl[p]?=some q→plStep cvT ops.toList bs q (S p)=some (S (p+1))){p c q:Nat}(hc:Chn ops c)(hp:pl[p]?=some (c,false))(hq:p<q)(hl:q≤pl.length):(S q).Ch.testBit c=true:=by
 refine(trM h0 ht (show p+1≤q by omega) hl).1 c ?_;obtain⟨oc,ho,hk⟩:=hc;obtain⟨o,m,h1,-,-,-,-,-,-,-,hx⟩:=step_op (ht p _ hp);rw[Array.getElem?_toList,ho]at h1;cases h1;rcases hx with⟨a,-⟩|⟨a,-⟩|⟨-,-,-,a,-⟩|⟨-,-,-,a,-⟩
 ·omega
 ·omega
 ·rw[a,bit_or,bit_of];simp
 ·rw[a,bit_or,bit_of];simp
end
end Go.Proofs.YtglihimiidiacaaGreatDoor.Ev8
namespace Go.Proofs.YtglihimiidiacaaGreatDoor.Ev8
open Go
def Bef(bs:List Nat)(k i:Nat):Prop:=∃m,bs[i]?=some m∧m.testBit k=true
theorem ps_ex(pl:List (Nat×Bool)):∃ps:Nat→Nat,∀i,(∃p:Nat,pl[p]?=some (i,false))→pl[ps i]?=some (i,false):=by
 classical
 refine⟨fun i=>if h:∃p:Nat,pl[p]?=some (i,false) then Classical.choose h else 0,fun i h=>?_⟩;simp only[dif_pos h];exact Classical.choose_spec h
theorem plC_of{ops:Array Oper}{pl:List (Nat×Bool)}(h:plOk cvT ops.toList pl=true):∃bs ps,bs.length=ops.size∧PlC ops (Bef bs) ps pl:=by
 obtain⟨ps,psOf_at⟩:=ps_ex pl;unfold plOk at h;split at h
 ·cases h
 rename_i bs hbs
 obtain⟨hdup,h⟩:=and_ok h;split at h;case h_2=>cases h
 rename_i s hs
 obtain⟨hD,hPd⟩:=and_ok h;have hD':s.D=2 ^ ops.size-1:=by have:=Nat.eq_of_beq_eq_true hD;simpa[bitOf]using this
 have hPd':s.Pd=0:=Nat.eq_of_beq_eq_true hPd;obtain⟨S,h0,hl,ht⟩:=trj_of pl _ _ hs;obtain⟨tl,hb1,hb2,hb3⟩:=befs_ok ops.toList [] bs hbs;have hbt:bs=tl:=by simpa using hb1
 subst hbt;have hsz:bs.length=ops.size:=by simpa using hb2
 have hbo:∀(i:Nat) (o:Oper),ops[i]?=some o→∃m,bs[i]?=some m∧BfO bs i o m:=fun i o ho=>by
  obtain⟨m,h1,h2⟩:=hb3 i o (by simpa using ho);exact⟨m,h1,by simpa using h2⟩
 have hop:∀{i:Nat} {o:Oper},ops.toList[i]?=some o↔ops[i]?=some o:=fun {i o}=>by simp
 have hlt:∀{i:Nat} {o:Oper},ops[i]?=some o→i<ops.size:=fun h=>(Array.getElem?_eq_some_iff.1 h).1;have tD:=trD h0 ht;have hex:∀i,i<ops.size→∃p:Nat,pl[p]?=some (i,false):=fun i hi=>by
  have:(S pl.length).D.testBit i=true:=by rw[hl,hD',Nat.testBit_two_pow_sub_one];simpa using hi
  obtain⟨p,-,hp⟩:=(tD _ (Nat.le_refl _) i).1 this;exact⟨p,hp⟩
 have hat:∀i,i<ops.size→pl[ps i]?=some (i,false):=fun i hi=>psOf_at i (hex i hi);have huni:∀{p q i:Nat},pl[p]?=some (i,false)→pl[q]?=some (i,false)→p=q:=by
  have aux:∀{p q i:Nat},p<q→pl[p]?=some (i,false)→pl[q]?=some (i,false)→False:=fun {p q i} hpq hp hq=>by
   obtain⟨o,m,-,-,hn,-⟩:=step_op (ht q _ hq);have:=(tD q (by have:=(List.getElem?_eq_some_iff.1 hq).1;omega) i).2 ⟨p,hpq,hp⟩;rw[hn]at this;cases this
  intro p q i hp hq;rcases Nat.lt_trichotomy p q with h|h|h
  ·exact(aux h hp hq).elim
  ·exact h
  ·exact(aux h hq hp).elim
 have hony:∀(p i:Nat),pl[p]?=some (i,false)→i<ops.size∧p=ps i:=fun p i hp=>by
  obtain⟨o,m,h1,-⟩:=step_op (ht p _ hp);exact⟨hlt (hop.1 h1),huni hp (psOf_at i ⟨p,hp⟩)⟩
 have hpl:∀{i:Nat},i<ops.size→ps i<pl.length:=fun hi=>(List.getElem?_eq_some_iff.1 (hat _ hi)).1;have stp:∀{i:Nat} {o:Oper},ops[i]?=some o→∃m,bs[i]?=some m∧sub m (S (ps i)).D=true∧opsIn ops.toList bs i o m=true∧grdIn cvT ops.toList o m=true∧
  (∀t j,Operand.tmp t∈o.op.operands.toList→dstAt ops.toList t=some j→∀x∈(S (ps i)).ea,x.1=j→sub x.2 m=true)∧
  ((kOp cvT o.op=0∧(S (ps i+1)).Pd=(S (ps i)).Pd)∨(kOp cvT o.op=1∧sub (S (ps i)).Ch m=true∧(S (ps i+1)).Pd=(S (ps i)).Pd)∨
   (kOp cvT o.op=2∧(S (ps i)).Pd=0∧(sub (S (ps i)).Ch m=true∨o.guard=none)∧(S (ps i+1)).ea=(bif sub (S (ps i)).Ch m then (S (ps i)).ea else (i,Nat.lor (S (ps i)).Ch (bitOf i))::(S (ps i)).ea))∨
   (kOp cvT o.op=3∧(S (ps i)).Pd=0∧sub (S (ps i)).Ch m=true∧∀j oj,ops.toList[j]?=some oj→kOp cvT oj.op=1→(S (ps i)).D.testBit j=true→m.testBit j=false→(S (ps i+1)).Pd.testBit j=true)):=fun {i o} ho=>by
  obtain⟨o',m,h1,h2,-,h4,h5,h6,h7,-,h9⟩:=step_op (ht _ _ (hat i (hlt ho)));rw[hop,ho]at h1;cases h1;refine⟨m,h2,h4,h5,h6,h7,?_⟩;rcases h9 with⟨a,b,c,d⟩|⟨a,b,c,d,e⟩|⟨a,b,c,d,e,f⟩|⟨a,b,c,d,e,f⟩
  ·exact .inl ⟨a,c⟩
  ·exact .inr (.inl ⟨a,b,d⟩)
  ·exact .inr (.inr (.inl ⟨a,b,c,f⟩))
  ·exact .inr (.inr (.inr ⟨a,b,c,f⟩))
 have chb:∀{i m:Nat},bs[i]?=some m→i<ops.size→sub (S (ps i)).Ch m=true→∀c,Chn ops c→ps c<ps i→Bef bs c i:=fun {i m} hm hi hs c hc hp=>by
  have hci:c<ops.size:=by obtain⟨o,h,-⟩:=hc;exact hlt h
  exact⟨m,hm,sub_bit hs (trC h0 ht hc (hat c hci) hp (Nat.le_of_lt (hpl hi)))⟩
 have hul:∀(k i:Nat) (o:Oper),ops[i]?=some o→Bef bs k i→∃e∈o.after,Region.binds .any e=true∧(k=e.on∨Bef bs k e.on):=fun k i o ho ⟨m,hm,hk⟩=>by
  obtain⟨m',h1,h2⟩:=hbo i o ho;rw[hm]at h1;cases h1;obtain⟨e,e1,e2,e3⟩:=h2.2 k hk;exact⟨e,e1,e2,e3⟩
 have edg:∀(i:Nat) (o:Oper),ops[i]?=some o→∀e∈o.after,Region.binds .any e=true→Bef bs e.on i∧e.on<i:=fun i o ho e he hb=>by
  obtain⟨m,h1,h2⟩:=hbo i o ho;obtain⟨a,b⟩:=h2.1 e he hb;exact⟨⟨m,h1,b⟩,a⟩
 have blt:∀(i k:Nat),i<ops.size→Bef bs k i→k<i:=by
  intro i;induction i using Nat.strongRecOn with
  |ind i ih=>
   intro k hi hk;obtain⟨e,e1,e2,e3⟩:=hul k i _ (Array.getElem?_eq_getElem hi) hk;have:=(edg i _ (Array.getElem?_eq_getElem hi) e e1 e2).2;rcases e3 with rfl|e3
   ·exact this
   ·have:=ih e.on this k (by omega) e3;omega
 have hdst:∀{k:Nat} {ok:Oper} {t:Tmp},ops[k]?=some ok→ok.dst=some t→dstAt ops.toList t=some k:=fun hk htt=>dstAt_ok hdup (hop.2 hk) htt;have lin:∀(k i:Nat),i<ops.size→Bef bs k i→k<ops.size∧ps k<ps i:=fun k i hi hk=>by
  have h1:=blt i k hi hk;obtain⟨m,hm,hb⟩:=hk;obtain⟨m',g1,g2,-⟩:=stp (Array.getElem?_eq_getElem hi);rw[hm]at g1;cases g1;obtain⟨p,hp,hp2⟩:=(tD _ (Nat.le_of_lt (hpl hi)) k).1 (sub_bit g2 hb);refine⟨by omega,?_⟩;rw[←(hony p k hp2).2];exact hp
 refine⟨bs,ps,hsz,hat,hony,fun p i hp=>?_,edg,lin,hul,fun i o ho hk=>?_,fun i o ho hk=>?_,fun i o t k ok ho hx hk hd=>?_,fun i o g ho hg=>?_,fun c oc j oj hc hkc hj hkj hlt2 hnb=>?_,fun r j oj t k ok hr hj hx hk hd=>?_,fun r j hr=>?_,fun i o j oj t hi hj h1 h2=>noDup_ok hdup i o j oj t (hop.2 hi) (hop.2 hj) h1 h2⟩
 ·obtain⟨o,m,h1,-⟩:=step_re (ht p _ hp);exact hlt (hop.1 h1)
 ·
  obtain⟨m,hm,-,-,-,-,hx⟩:=stp ho;rcases hx with⟨a,-⟩|⟨a,b,-⟩|⟨a,-⟩|⟨a,-,b,-⟩
  ·omega
  ·exact chb hm (hlt ho) b
  ·omega
  ·exact chb hm (hlt ho) b
 ·
  obtain⟨m,hm,-,-,-,-,hx⟩:=stp ho;rcases hx with⟨a,-⟩|⟨a,b,-⟩|⟨a,-,b,-⟩|⟨a,-,b,-⟩
  ·omega
  ·omega
  ·rcases b with b|b
   ·exact .inr (chb hm (hlt ho) b)
   ·exact .inl b
  ·omega
 ·
  obtain⟨m,hm,-,hO,-,hE,-⟩:=stp ho;have hdk:=hdst hk hd;have hx':=List.all_eq_true.1 hO _ hx;simp only[hdk,Bool.or_eq_true]at hx';rcases hx' with hx'|hx'
  ·have hb:Bef bs k i:=⟨m,hm,hx'⟩;refine .inl ⟨hb,fun hk2=>?_⟩;have hps:=(lin k i (hlt ho) hb).2;obtain⟨mk,hmk,-,-,-,-,hxk⟩:=stp hk;rcases hxk with⟨a,-⟩|⟨a,b,-⟩|⟨a,-,b,c⟩|⟨a,-,b,-⟩
   ·omega
   ·omega
   ·cases hsb:sub (S (ps k)).Ch mk with
    |true=>exact .inl (chb hmk (hlt hk) hsb)
    |false=>
     right
     rw[hsb]at c;have hmem:=(trM h0 ht (show ps k+1≤ps i by omega) (Nat.le_of_lt (hpl (hlt ho)))).2 (k,Nat.lor (S (ps k)).Ch (bitOf k)) (by rw[c];exact List.mem_cons_self ..);have hsu:=hE t k hx hdk _ hmem rfl;intro c' hc' hle;have hci:c'<ops.size:=by obtain⟨o,h,-⟩:=hc';exact hlt h
     refine⟨m,hm,sub_bit hsu ?_⟩;rw[bit_or,bit_of];by_cases he:ps c'=ps k
     ·have e1:=hat c' hci;have e2:=hat k (hlt hk);rw[he,e2]at e1;cases e1;simp
     ·rw[trC h0 ht hc' (hat c' hci) (show ps c'<ps k by omega) (Nat.le_of_lt (hpl (hlt hk)))];rfl
   ·omega
  ·right
   split at hx'
   ·rename_i q hq;exact⟨q,hq,hx'⟩
   ·cases hx'
 ·
  obtain⟨m,hm,-,-,hG,-⟩:=stp ho;unfold grdIn at hG;rw[hg]at hG;obtain⟨k1,k2⟩:=and_ok hG;refine⟨⟨m,hm,k1⟩,fun og hog hk2=>?_⟩;rw[hop.2 hog]at k2;simp[hk2]at k2
 ·
  have hci:=hlt hc;have hji:=hlt hj;obtain⟨m,hm,-,-,-,-,hx⟩:=stp hc;have hset:(S (ps c+1)).Pd.testBit j=true:=by
   rcases hx with⟨a,-⟩|⟨a,b,-⟩|⟨a,-,b,-⟩|⟨a,-,b,e⟩
   ·omega
   ·omega
   ·omega
   ·refine e j oj (hop.2 hj) hkj ((tD _ (Nat.le_of_lt (hpl hci)) j).2 ⟨_,hlt2,hat j hji⟩) ?_;cases hb:m.testBit j with
    |false=>rfl
    |true=>exact absurd ⟨m,hm,hb⟩ hnb
  have key:∀q,ps c<q→q≤pl.length→((S q).Pd.testBit j=true∧∀c',Chn ops c'→¬(ps c<ps c'∧ps c'<q))∨∃r,ps c<r∧pl[r]?=some (j,true)∧∀c',Chn ops c'→¬(ps c<ps c'∧ps c'<r):=by
   intro q;induction q with
   |zero=>intro h;omega
   |succ q ih=>
    intro h1 h2;by_cases e:q=ps c
    ·subst e;exact .inl ⟨hset,fun c' _ h=>by omega⟩
    ·rcases ih (by omega) (by omega) with⟨a1,a2⟩|a
     ·obtain⟨⟨k,b⟩,hk⟩:∃x,pl[q]?=some x:=⟨_,List.getElem?_eq_getElem (by omega)⟩;cases b with
      |true=>
       by_cases ek:k=j
       ·subst ek;exact .inr ⟨q,by omega,hk,a2⟩
       ·obtain⟨o,m',-,-,-,-,-,-,-,-,hb⟩:=step_re (ht q _ hk);refine .inl ⟨by rw[hb j (Ne.symm ek)];exact a1,fun c' hc' hh=>?_⟩;by_cases e2:ps c'=q
        ·have hci':c'<ops.size:=by obtain⟨o,h,-⟩:=hc';exact hlt h
         have:=hat c' hci';rw[e2,hk]at this;cases this
        ·exact a2 c' hc' ⟨hh.1,by omega⟩
      |false=>
       obtain⟨hki,hkq⟩:=hony q k hk;obtain⟨m',-,-,-,-,-,hxk⟩:=stp (Array.getElem?_eq_getElem hki);rw[←hkq]at hxk;have nz:(S q).Pd≠0:=fun hz=>by rw[hz]at a1;simp at a1
       have hnk:kOp cvT ops[k].op<2→(S (q+1)).Pd=(S q).Pd→((S (q+1)).Pd.testBit j=true∧∀c',Chn ops c'→¬(ps c<ps c'∧ps c'<q+1)):=fun hk2 hP=>by
        refine⟨by rw[hP];exact a1,fun c' hc' hh=>?_⟩;by_cases e2:ps c'=q
        ·obtain⟨o',h1',h2'⟩:=hc';have:=hat c' (hlt h1');rw[e2,hk]at this;cases this;rw[Array.getElem?_eq_getElem hki]at h1';cases h1';omega
        ·exact a2 c' hc' ⟨hh.1,by omega⟩
       rcases hxk with⟨a,b⟩|⟨a,-,b⟩|⟨a,b,-⟩|⟨a,b,-⟩
       ·exact .inl (hnk (by omega) b)
       ·exact .inl (hnk (by omega) b)
       ·exact absurd b nz
       ·exact absurd b nz
     ·exact .inr a
  rcases key pl.length (hpl hci) (Nat.le_refl _) with⟨a,-⟩|a
  ·rw[hl,hPd']at a;simp at a
  ·exact a
 ·
  obtain⟨o,m,h1,h2,-,-,h5,-⟩:=step_re (ht r _ hr);rw[hop,hj]at h1;cases h1;have:=List.all_eq_true.1 h5 _ hx;simp only[hdst hk hd]at this;exact⟨m,h2,this⟩
 ·
  obtain⟨o,m,h1,-,h3,-⟩:=step_re (ht r _ hr);obtain⟨p,hp,hp2⟩:=(tD r (by have:=(List.getElem?_eq_some_iff.1 hr).1;omega) j).1 h3;rw[←(hony p j hp2).2];exact hp
end Go.Proofs.YtglihimiidiacaaGreatDoor.Ev8
namespace Go.Proofs.YtglihimiidiacaaGreatDoor.Ev8
open Go
variable {P:Program} {ι ι':Io} {F:Fence}
def plI(b:Bool)(o:Oper):Pl:=bif b then .re o else .op o
def PlL(ops:Array Oper)(pl:List (Nat×Bool))(L:List Pl):Prop:=L.length=pl.length∧∀(p i:Nat) (b:Bool) (o:Oper),pl[p]?=some (i,b)→ops[i]?=some o→L[p]?=some (plI b o)
theorem plan_ok{ops:Array Oper}:∀(pl:List (Nat×Bool)) (L:List Pl),plan ops.toList pl=some L→PlL ops pl L∧∀p∈L,p.o∈ops.toList
 |[],L,h=>by cases h;exact⟨⟨rfl,fun p i b o h=>by simp at h⟩,fun p h=>by cases h⟩
 |(i,b)::pl,L,h=>by
  unfold plan at h;rw[nth_eq]at h;split at h
  ·rename_i o l ho hl
   cases h;obtain⟨⟨h1,h2⟩,h3⟩:=plan_ok pl l hl;refine⟨⟨by simp[h1],fun p i' b' o' hp ho'=>?_⟩,fun p hp=>?_⟩
   ·cases p with
    |zero=>
     simp only[List.getElem?_cons_zero,Option.some.injEq,Prod.mk.injEq]at hp;obtain⟨rfl,rfl⟩:=hp;have:o=o':=by simpa[ho']using ho.symm
     subst this;rfl
    |succ p=>simpa using h2 p i' b' o' (by simpa using hp) ho'
   ·rcases List.mem_cons.1 hp with rfl|hp
    ·have:(bif b then Pl.re o else Pl.op o).o=o:=by cases b<;>rfl
     rw[this];exact List.mem_of_getElem? ho
    ·exact h3 p hp
  ·cases h
theorem seqPl_ok(ops:Array Oper):PlL ops (seqPl ops.toList) (ops.toList.map .op):=by
 refine⟨by simp[seqPl],fun p i b o hp ho=>?_⟩;unfold seqPl at hp;rw[List.getElem?_map]at hp;cases hr:(List.range ops.toList.length)[p]? with
 |none=>rw[hr]at hp;cases hp
 |some x=>
  rw[hr]at hp;simp only[Option.map_some,Option.some.injEq,Prod.mk.injEq]at hp;obtain⟨rfl,rfl⟩:=hp;have:p=x:=by
   obtain⟨h1,h2⟩:=List.getElem?_eq_some_iff.1 hr;simpa using h2
  subst this;rw[List.getElem?_map];simp[ho,plI]
theorem trF_of{ops:Array Oper}{pl:List (Nat×Bool)}{L:List Pl}{θ θ':Te}{H H':HS}(hL:PlL ops pl L)(h:Tra F P ops.toList false L θ H θ' H'):∃(Th:Nat→Te) (Hh:Nat→HS) (U:Nat→AV),Th 0=θ∧Hh 0=H∧Th pl.length=θ'∧Hh pl.length=H'∧TrF F P ops pl Th Hh U:=by
 obtain⟨Th,Hh,U,h1,h2,h3,h4,h5,h6⟩:=tra_fn h rfl;rw[hL.1]at h3 h4;exact⟨Th,Hh,U,h1,h2,h3,h4,fun p i o hp ho=>h5 p o (hL.2 p i false o hp ho),fun p i o hp ho=>h6 p o (hL.2 p i true o hp ho)⟩
theorem rgOk_ops{N:Nat}{fd:Fd}{id:Nat}{ops:Array Oper}{d:Bool}(h:rgOk N fd id ops.toList d=true):(∀(j:Nat) (oj:Oper),ops[j]?=some oj→dOk N oj.dst=true∧opOk oj=true)∧∀o∈ops.toList,opOk o=true:=by
 have h1:=List.all_eq_true.1 (and_ok h).1;refine⟨fun j oj hj=>and_ok (h1 oj (List.mem_of_getElem? (by simpa using hj))),fun o ho=>(and_ok (h1 o ho)).2⟩
def RgW(F:Fence)(P:Program)(N:Nat)(c:Code)(θ:Te)(H:HS)(θ':Te)(H':HS):Prop:=∀ι a w (Q:Exit→Act→World→Prop),SRl N ι θ H a w→(∀ι' a' w',SRl N ι' θ' H' a' w'→Go1 ι (hp H.h) w ι' (hp H'.h) H'.nx w'→a'.defers=a.defers→Q .normal a' w')→c.wpIn F 0 P Q a w
theorem region_ok(hF:WF F)(hm:P.follows .mixedOrders=true){X:Cx}{fin:Sx→WR}(hC:CallOk P X.ih)(hY:RndOk P X.ih){ti:TT}(T:TyOk P ti){fd:Fd}(hvs:fd.vs.length≤72){N id:Nat}{ops:Array Oper}{d:Bool}(hok:rgOk N fd id ops.toList d=true){tm:TM}{θ:Te}(htm:∀t n,pos t fd.vs 0=some n→tget n tm=θ t){H:HS}{R:Res}(hR:R≠.fail)(h:(rgX P ti fd id ops d fin).f X .emp tm H=R):
 ∃θ' H' s' e' tm',(fin s').f X e' tm' H'=R∧DsOk s' [] e' tm' θ'∧s'.vs=fd.vs∧s'.ti=ti∧RgW F P N (.region id ops d) θ H θ' H':=by
 obtain⟨hops,hopk⟩:=rgOk_ops hok;have hds:∀fa rest,DsOk ⟨ti,fd.vs,ops.toList,[],0,fa⟩ rest .emp tm θ:=fun fa rest=>⟨rfl,fun t r h=>(by cases h),htm⟩;have drw:∀{pl:List (Nat×Bool)} {L:List Pl} {θ':Te} {H':HS},PlL ops pl L→plOk cvT ops.toList pl=true→Tra F P ops.toList false L θ H θ' H'→RgW F P N (.region id ops true) θ H θ' H':=fun {pl L θ' H'} hL hp ht=>by
  obtain⟨Th,Hh,U,rfl,rfl,rfl,rfl,hT⟩:=trF_of hL ht;obtain⟨bs,ps,hbs,C⟩:=plC_of hp;intro ι a w Q hs hQ;exact drawn_ok hF hm C hT hops hs (fun k i ⟨m,hm,_⟩=>by have:=(List.getElem?_eq_some_iff.1 hm).1;omega) hQ
 unfold rgX at h;cases d with
 |false=>
  simp only at h;obtain⟨θ',H',s',e',tm',h1,h2,h3,h4,h5⟩:=rgC_ok hF hC hY 100 ops.toList _ .emp tm H θ R T hvs hopk (hds true _) hR h;refine⟨θ',H',s',e',tm',h2,h3,h4,h5,fun ι a w Q hs hQ=>wpIn_region ?_⟩;have:=seq_ok hF hops h1 ops.toList 0 ι a w rfl (fun j=>.inl (by simp)) hs hQ;rw[List.range_eq_range'];simpa using this
 |true=>
  have hp:plOk cvT ops.toList (planOf fd id ops.toList)=true:=(and_ok hok).2;unfold planOf at hp;simp only at h;cases hl:look id fd.dr with
  |none=>
   rw[hl]at h hp;obtain⟨θ',H',s',e',tm',h1,h2,h3,h4,h5⟩:=rgC_ok hF hC hY 100 ops.toList _ .emp tm H θ R T hvs hopk (hds false _) hR h;exact⟨θ',H',s',e',tm',h2,h3,h4,h5,drw (seqPl_ok ops) hp h1⟩
  |some pl=>
   rw[hl]at h hp;simp only at h hp;cases hpl:plan ops.toList pl with
   |none=>rw[hpl]at h;exact absurd h.symm hR
   |some L=>
    rw[hpl]at h;obtain⟨hL,hLm⟩:=plan_ok pl L hpl;obtain⟨θ',H',s',e',tm',h1,h2,h3,h4,h5⟩:=rgD_ok hF hC hY L _ .emp tm H θ R T hvs (fun p hp=>hopk _ (hLm p hp)) (hds false) hR h;exact⟨θ',H',s',e',tm',h2,h3,h4,h5,drw hL hp h1⟩
end Go.Proofs.YtglihimiidiacaaGreatDoor.Ev8
namespace Go.Proofs.YtglihimiidiacaaGreatDoor.Ev8
open Go
variable {P:Program} {F:Fence}
theorem stepR_scope{b:Frame}{a:Act}{k:List Item}{cs:List Frame}{w:World}{c:Code}:step P (lone (b.atR a (.code (.scope c)::k)) cs w)=.next (lone (b.atR a (.code c::.inScope c::k)) cs w):=
 step_lone_go (by simp[stepG,stepG.exec,Frame.atR])
theorem stepR_inScope{b:Frame}{a:Act}{k:List Item}{cs:List Frame}{w:World}{c:Code}:step P (lone (b.atR a (.inScope c::k)) cs w)=.next (lone (b.atR a k) cs w):=
 step_lone_go (by simp[stepG,stepG.exec,Frame.atR])
def jmpP(F:Fence)(n:Nat)(P:Program)(c:Code)(Q:Exit→Act→World→Prop):Nat→Exit→Act→World→Prop
 |0=>fun e a w=>match e with|.goto _=>False|e=>Q e a w
 |m+1=>fun e a w=>match e with|.goto l=>∃r,findLabel c l=some r∧r.wpIn F n P (jmpP F n P c Q m) a w|e=>Q e a w
theorem wpIn_scope{n:Nat}{c:Code}{Q:Exit→Act→World→Prop}{a:Act}{w:World}(m:Nat)(h:c.wpIn F n P (jmpP F n P c Q m) a w):(Code.scope c).wpIn F n P Q a w:=by
 intro b k cs hro hb hr;have key:∀m r a w,r.wpIn F n P (jmpP F n P c Q m) a w→
  ∃e a' w',Q e a' w'∧ArrivesIn (Machine.fenced P F) P (lone (b.atR a (.code r::.inScope c::k)) cs w) b k cs e a' w':=by
  intro m;induction m with
  |zero=>
   intro r a w h;obtain⟨e,a₁,w₁,hq,harr⟩:=h b (.inScope c::k) cs hro hb hr;cases e with
   |normal=>exact⟨.normal,a₁,w₁,hq,StepsIn.trans harr (.one (fenced_calm hb hr rfl) stepR_inScope)⟩
   |exit id=>exact⟨.exit id,a₁,w₁,hq,fun k' hk=>harr.1 k' (by simp[exitTo,hk]),fun hr' hk=>harr.2 hr' (by simp[exitTo,hk])⟩
   |goto l=>exact hq.elim
   |ret=>exact⟨_,a₁,w₁,hq,harr⟩
   |panic ch=>exact⟨_,a₁,w₁,hq,harr⟩
   |outgrown=>exact⟨_,a₁,w₁,hq,harr⟩
  |succ m ih=>
   intro r a w h;obtain⟨e,a₁,w₁,hq,harr⟩:=h b (.inScope c::k) cs hro hb hr;cases e with
   |normal=>exact⟨.normal,a₁,w₁,hq,StepsIn.trans harr (.one (fenced_calm hb hr rfl) stepR_inScope)⟩
   |exit id=>exact⟨.exit id,a₁,w₁,hq,fun k' hk=>harr.1 k' (by simp[exitTo,hk]),fun hr' hk=>harr.2 hr' (by simp[exitTo,hk])⟩
   |goto l=>
    obtain⟨r',hf,hw⟩:=hq;obtain⟨e₂,a₂,w₂,hq₂,harr₂⟩:=ih r' a₁ w₁ hw;exact⟨e₂,a₂,w₂,hq₂,.of_steps (harr.1 _ (by simp[gotoIn,hf])) harr₂⟩
   |ret=>exact⟨_,a₁,w₁,hq,harr⟩
   |panic ch=>exact⟨_,a₁,w₁,hq,harr⟩
   |outgrown=>exact⟨_,a₁,w₁,hq,harr⟩
 obtain⟨e,a',w',hq,harr⟩:=key m c a w h;exact⟨e,a',w',hq,.of_steps (.one (fenced_calm hb hr rfl) stepR_scope) harr⟩
end Go.Proofs.YtglihimiidiacaaGreatDoor.Ev8
namespace Go.Proofs.YtglihimiidiacaaGreatDoor.Ev8
open Go
variable {P:Program} {ι ι':Io} {F:Fence} {lo:Nat}
def Cst(N:Nat)(vs:List Nat)(ι:Io)(tm:TM)(H:HS)(a:Act)(w:World):Prop:=∃θ:Te,(∀t n,pos t vs 0=some n→tget n tm=θ t)∧SRl N ι θ H a w
def mrk(r:Nat):Deferred:={target:=.collected r,args:=#[]}
def Dfs(lo:Nat)(ι:Io)(h:Hp)(w:World)(ds:List Deferred):Prop:=lo≤w.heap.size∧∃rs:List Nat,ds=rs.map mrk∧rs.Nodup∧∀r∈rs,w.heap[r]?=some (.deferred (some []))∧¬Own ι h r∧lo≤r
theorem hp_lt{w:World}{r:Nat}{o:Obj}(h:w.heap[r]?=some o):r<w.heap.size:=(Array.getElem?_eq_some_iff.1 h).1
theorem Dfs.go{h h':Hp}{w w':World}{nx:Nat}{ds:List Deferred}(hd:Dfs lo ι h w ds)(g:Go1 ι h w ι' h' nx w'):Dfs lo ι' h' w' ds:=by
 obtain⟨h0,rs,h1,h2,h3⟩:=hd;refine⟨Nat.le_trans h0 g.size,rs,h1,h2,fun r hr=>?_⟩;obtain⟨a,b,c⟩:=h3 r hr;have hlt:=hp_lt a;refine⟨(g.keep r hlt b).trans a,fun ho=>?_,c⟩;rcases g.own r ho with h|h
 ·exact b h
 ·omega
def xtE:Xt→Exit|.ex i=>.exit i|.gt l=>.goto l|.rt=>.ret
def CEnd(lo N:Nat)(vs:List Nat)(ι0:Io)(H0:HS)(w0:World)(tm:TM)(H:HS)(a:Act)(w:World):Prop:=∃ι,Cst N vs ι tm H a w∧Go1 ι0 (hp H0.h) w0 ι (hp H.h) H.nx w∧Dfs lo ι (hp H.h) w a.defers
def CPost(lo N:Nat)(vs:List Nat)(ι0:Io)(H0:HS)(w0:World)(R:Res):Exit→Act→World→Prop:=fun e a w=>match R with
 |.nrm tm H=>e=.normal∧CEnd lo N vs ι0 H0 w0 tm H a w
 |.out x tm H=>e=xtE x∧CEnd lo N vs ι0 H0 w0 tm H a w
 |_=>False
theorem CEnd.from{N:Nat}{vs:List Nat}{ι0 ι1:Io}{H0 H1:HS}{w0 w1:World}{tm:TM}{H:HS}{a:Act}{w:World}(g:Go1 ι0 (hp H0.h) w0 ι1 (hp H1.h) H1.nx w1)(h:CEnd lo N vs ι1 H1 w1 tm H a w):CEnd lo N vs ι0 H0 w0 tm H a w:=by
 obtain⟨ι,h1,h2,h3⟩:=h;exact⟨ι,h1,g.trans h2,h3⟩
theorem CPost.from{N:Nat}{vs:List Nat}{ι0 ι1:Io}{H0 H1:HS}{w0 w1:World}{R:Res}{e:Exit}{a:Act}{w:World}(g:Go1 ι0 (hp H0.h) w0 ι1 (hp H1.h) H1.nx w1)(h:CPost lo N vs ι1 H1 w1 R e a w):CPost lo N vs ι0 H0 w0 R e a w:=by
 unfold CPost at h ⊢;cases R with
 |nrm tm H=>exact⟨h.1,h.2.from g⟩
 |out x tm H=>exact⟨h.1,h.2.from g⟩
 |fail=>exact h
 |fv v H=>exact h
def CodeOk(F:Fence)(P:Program)(N:Nat)(fd:Fd)(ih:Ih)(c:Code)(C:WC):Prop:=∀(lo:Nat) tm H R ι a w,C.f ih tm H=R→R≠.fail→Cst N fd.vs ι tm H a w→Dfs lo ι (hp H.h) w a.defers→c.wpIn F 0 P (CPost lo N fd.vs ι H w R) a w
theorem xtE_ne(x:Xt):xtE x≠.normal:=by cases x<;>simp[xtE]
theorem then_ne{next:Act→World→Prop}{Q:Exit→Act→World→Prop}{e:Exit}{a:Act}{w:World}(he:e≠.normal)(h:Q e a w):Exit.then next Q e a w:=by
 cases e<;>first|exact absurd rfl he|exact h
theorem seq_code{N:Nat}{fd:Fd}{x y:Code}{H:HS}{R1 R:Res}{a:Act}{w:World}(h1:x.wpIn F 0 P (CPost lo N fd.vs ι H w R1) a w)
 (h2:∀tm1 H1,R1=.nrm tm1 H1→∀ι1 a1 w1,Cst N fd.vs ι1 tm1 H1 a1 w1→Dfs lo ι1 (hp H1.h) w1 a1.defers→y.wpIn F 0 P (CPost lo N fd.vs ι1 H1 w1 R) a1 w1)
 (h3:∀x1 tm1 H1,R1=.out x1 tm1 H1→R=R1):(Code.seq x y).wpIn F 0 P (CPost lo N fd.vs ι H w R) a w:=by
 refine wpIn_seq (wpIn_mono h1 fun e a1 w1 hq=>?_);cases R1 with
 |fail=>exact hq.elim
 |fv v H=>exact hq.elim
 |nrm tm1 H1=>
  obtain⟨rfl,ι1,k1,k2,k3⟩:=hq;exact wpIn_mono (h2 tm1 H1 rfl ι1 a1 w1 k1 k3) fun e a2 w2 hq=>hq.from k2
 |out x1 tm1 H1=>
  have:=h3 x1 tm1 H1 rfl;subst this;exact then_ne (by rw[hq.1];exact xtE_ne _) hq
theorem cdG_inv{A B:Unit→Res}{v:AV}{R:Res}(h:cdG A B v=R)(hR:R≠.fail):∃t,v=.b t∧(if t then A () else B ())=R:=by
 cases v<;>first|(exact absurd h.symm hR)|skip
 rename_i t
 refine⟨t,rfl,?_⟩;cases t<;>exact h
theorem isReg_eq{c:Code}{id:Nat}{ops:Array Oper}{d:Bool}(h:isReg c=some (id,ops,d)):c=.region id ops d:=by
 cases c<;>simp[isReg]at h;obtain⟨rfl,rfl,rfl⟩:=h;rfl
theorem isCn0_eq{b:Code}{c:Operand}{x y:Code}(h:isCn0 b=some (c,x,y)):b=.cond c x y:=by
 cases b<;>simp[isCn0]at h;obtain⟨rfl,rfl,rfl⟩:=h;rfl
theorem isCnd_eq{b:Code}{c:Operand}{x y:Code}{r:Option Code}(h:isCnd b=some (c,x,y,r)):(r=none∧b=.cond c x y)∨∃r',r=some r'∧b=.seq (.cond c x y) r':=by
 cases b with
 |cond c' x' y'=>simp[isCnd]at h;obtain⟨rfl,rfl,rfl,rfl⟩:=h;exact .inl ⟨rfl,rfl⟩
 |seq a r'=>
  simp only[isCnd]at h;split at h
  ·rename_i c' x' y' hc
   simp at h;obtain⟨rfl,rfl,rfl,rfl⟩:=h;exact .inr ⟨r',rfl,by rw[isCn0_eq hc]⟩
  ·cases h
 |_=>simp[isCnd]at h
theorem find_okC{N:Nat}{fd:Fd}{l:Nat}:∀{c r:Code},findLabel c l=some r→okC N fd c=true→okC N fd r=true∧(noRf c=true→noRf r=true)
 |.seq a b,r,h,ho=>by
  unfold findLabel at h;obtain⟨o1,o2⟩:=and_ok ho;split at h
  ·rename_i rest hr
   cases h;obtain⟨k1,k2⟩:=find_okC hr o1;refine⟨?_,fun hn=>?_⟩
   ·show and (okC N fd rest) (okC N fd b)=true;rw[k1,o2];rfl
   ·obtain⟨n1,n2⟩:=and_ok (show and (noRf a) (noRf b)=true from hn);show and (noRf rest) (noRf b)=true;rw[k2 n1,n2];rfl
  ·obtain⟨k1,k2⟩:=find_okC h o2;exact⟨k1,fun hn=>k2 (and_ok (show and (noRf a) (noRf b)=true from hn)).2⟩
 |.label l',r,h,ho=>by
  unfold findLabel at h;split at h
  ·cases h;exact⟨rfl,fun _=>rfl⟩
  ·cases h
 |.skip,r,h,_=>by cases h
 |.region ..,r,h,_=>by cases h
 |.cond ..,r,h,_=>by cases h
 |.block ..,r,h,_=>by cases h
 |.loop ..,r,h,_=>by cases h
 |.rangeFunc ..,r,h,_=>by cases h
 |.exit ..,r,h,_=>by cases h
 |.scope ..,r,h,_=>by cases h
 |.goto ..,r,h,_=>by cases h
 |.ret,r,h,_=>by cases h
 |.refuse ..,r,h,_=>by cases h
theorem cst_cond{N:Nat}{tm:TM}{H:HS}{a:Act}{w:World}{θ:Te}{s:Sx}{e:E}(hs:SRl N ι θ H a w)(hd:OV s θ e tm){c:Operand}(hx:xOk c=true){t:Bool}(h:(opd s c).f e tm=.b t):a.eval c=.bool t:=by
 have:=hd.is h (by simp);have hv:=aev_rv hs.gl hx fun t _=>hs.tr t;rw[this]at hv;have:[a.eval c]=[Value.bool t]:=hv;simpa using this
end Go.Proofs.YtglihimiidiacaaGreatDoor.Ev8
namespace Go.Proofs.YtglihimiidiacaaGreatDoor.Ev8
open Go
variable {P:Program} {ι ι':Io} {F:Fence} {lo:Nat}
def s0(ti:TT)(fd:Fd):Sx:=⟨ti,fd.vs,[],[],0,false⟩
theorem s0_ov{ti:TT}{fd:Fd}{tm:TM}{θ:Te}(h:∀t n,pos t fd.vs 0=some n→tget n tm=θ t):OV (s0 ti fd) θ .emp tm:=DsOk.ov (rest:=[]) ⟨rfl,fun t r h=>(by cases h),h⟩
theorem reg_code(hF:WF F)(hm:P.follows .mixedOrders=true){X:Cx}{fin:Sx→WR}(hC:CallOk P X.ih)(hY:RndOk P X.ih){ti:TT}(T:TyOk P ti){fd:Fd}(hvs:fd.vs.length≤72){N id:Nat}{ops:Array Oper}{d:Bool}(hok:rgOk N fd id ops.toList d=true){tm:TM}{H:HS}{R:Res}(hR:R≠.fail)(h:(rgX P ti fd id ops d fin).f X .emp tm H=R){a:Act}{w:World}(hs:Cst N fd.vs ι tm H a w)(hd:Dfs lo ι (hp H.h) w a.defers)
 {Q:Exit→Act→World→Prop} (hQ:∀s' e' tm' H' θ' ι' a' w',(fin s').f X e' tm' H'=R→OV s' θ' e' tm'→(∀t n,pos t fd.vs 0=some n→tget n tm'=θ' t)→SRl N ι' θ' H' a' w'→Go1 ι (hp H.h) w ι' (hp H'.h) H'.nx w'→Dfs lo ι' (hp H'.h) w' a'.defers→Q .normal a' w'):(Code.region id ops d).wpIn F 0 P Q a w:=by
 obtain⟨θ,htm,hs⟩:=hs;obtain⟨θ',H',s',e',tm',h1,h2,h3,h4,h5⟩:=region_ok hF hm hC hY T hvs hok htm hR h;refine h5 ι a w Q hs fun ι' a' w' k1 k2 k3=>hQ s' e' tm' H' θ' ι' a' w' h1 h2.ov (fun t n ht=>h2.tms t n (by rw[h3];exact ht)) k1 k2 (by rw[k3];exact hd.go k2)
def RfOk(F:Fence)(P:Program)(N:Nat)(fd:Fd)(ti:TT)(ih:Ih):Prop:=∀g ps ac bd,okC N fd (.rangeFunc g ps ac bd)=true→CodeOk F P N fd ih (.rangeFunc g ps ac bd) ⟨rfF fd (opd (s0 ti fd) g) ps.toList ac bd⟩
theorem lop_ok{N:Nat}{fd:Fd}{ih:Ih}{c:Code}{C:WC}(hc:CodeOk F P N fd ih c C):∀(n:Nat) (tm:TM) (H:HS) (R:Res) (ι:Io) (a:Act) (w:World),lopN C ih n tm H=R→R≠.fail→Cst N fd.vs ι tm H a w→Dfs lo ι (hp H.h) w a.defers→Code.roundsIn F 0 P c (CPost lo N fd.vs ι H w R) n a w
 |0,tm,H,R,ι,a,w,h,hR,_,_=>absurd h.symm hR
 |n+1,tm,H,R,ι,a,w,h,hR,hs,hd=>by
  have h':Res.rec (motive:=fun _=>Res) .fail (fun x tm H=>.out x tm H) (fun tm H=>lopN C ih n tm H) (fun _ _=>.fail) (C.f ih tm H)=R:=h;cases hr:C.f ih tm H with
  |fail=>rw[hr]at h';exact absurd h'.symm hR
  |fv v H1=>rw[hr]at h';exact absurd h'.symm hR
  |out x tm1 H1=>
   rw[hr]at h';refine wpIn_mono (hc lo tm H _ ι a w hr (by simp) hs hd) fun e a1 w1 hq=>?_;subst h';exact then_ne (by rw[hq.1];exact xtE_ne _) hq
  |nrm tm1 H1=>
   rw[hr]at h';refine wpIn_mono (hc lo tm H _ ι a w hr (by simp) hs hd) fun e a1 w1 hq=>?_;obtain⟨rfl,ι1,k1,k2,k3⟩:=hq;have hrec:=lop_ok hc n tm1 H1 R ι1 a1 w1 h' hR k1 k3;have mono:∀(m:Nat) (a w:_) {Q Q':Exit→Act→World→Prop},(∀e a w,Q e a w→Q' e a w)→Code.roundsIn F 0 P c Q m a w→Code.roundsIn F 0 P c Q' m a w:=by
    intro m;induction m with
    |zero=>intro a w Q Q' hq h;exact h
    |succ m ihm=>
     intro a w Q Q' hq h;refine wpIn_mono (show c.wpIn F 0 P (Exit.then (Code.roundsIn F 0 P c Q m) Q) a w from h) fun e a w h=>?_;cases e<;>first|exact ihm a w hq h|exact hq _ _ _ h
   exact mono n a1 w1 (fun e a w h=>CPost.from k2 h) hrec
theorem scp_ok{N:Nat}{fd:Fd}{ih:Ih}{c:Code}{lb:Nat→WC}(hl:∀l r,findLabel c l=some r→CodeOk F P N fd ih r (lb l))(hn:∀l,findLabel c l=none→∀tm H,(lb l).f ih tm H=.out (.gt l) tm H):∀(n:Nat) (R1 R:Res),scpN lb ih n R1=R→R≠.fail→∀e ι H0 w0 a w,CPost lo N fd.vs ι H0 w0 R1 e a w→jmpP F 0 P c (CPost lo N fd.vs ι H0 w0 R) n e a w
 |0,R1,R,h,hR,_,_,_,_,_,_,_=>absurd h.symm hR
 |n+1,R1,R,h,hR,e,ι,H0,w0,a,w,hq=>by
  have nofind:∀l,findLabel c l=none→∀n tm H,scpN lb ih n (.out (.gt l) tm H)=.fail:=by
   intro l hl n;induction n with
   |zero=>intros;rfl
   |succ n ihn=>intro tm H;show scpN lb ih n ((lb l).f ih tm H)=_;rw[hn l hl];exact ihn tm H
  cases R1 with
  |fail=>exact hq.elim
  |fv v H=>exact hq.elim
  |nrm tm1 H1=>
   have:R=.nrm tm1 H1:=h.symm;subst this;obtain⟨rfl,hq⟩:=hq;exact⟨rfl,hq⟩
  |out x tm1 H1=>
   cases x with
   |ex i=>
    have:R=.out (.ex i) tm1 H1:=h.symm;subst this;obtain⟨rfl,hq⟩:=hq;exact⟨rfl,hq⟩
   |rt=>
    have:R=.out .rt tm1 H1:=h.symm;subst this;obtain⟨rfl,hq⟩:=hq;exact⟨rfl,hq⟩
   |gt l=>
    have h':scpN lb ih n ((lb l).f ih tm1 H1)=R:=h;obtain⟨rfl,ι1,k1,k2,k3⟩:=hq;cases hf:findLabel c l with
    |none=>rw[hn l hf,nofind l hf]at h';exact absurd h'.symm hR
    |some r=>
     refine⟨r,hf,?_⟩;cases hr:(lb l).f ih tm1 H1 with
     |fail=>
      rw[hr]at h';have:scpN lb ih n .fail=.fail:=by cases n<;>rfl
      rw[this]at h';exact absurd h'.symm hR
     |fv v H2=>
      rw[hr]at h';have:scpN lb ih n (.fv v H2)=.fail:=by cases n<;>rfl
      rw[this]at h';exact absurd h'.symm hR
     |nrm tm2 H2=>
      rw[hr]at h';exact wpIn_mono (hl l r hf lo tm1 H1 _ ι1 a w hr (by simp) k1 k3) fun e2 a2 w2 hq2=>scp_ok hl hn n _ R h' hR e2 ι H0 w0 a2 w2 (hq2.from k2)
     |out x2 tm2 H2=>
      rw[hr]at h';exact wpIn_mono (hl l r hf lo tm1 H1 _ ι1 a w hr (by simp) k1 k3) fun e2 a2 w2 hq2=>scp_ok hl hn n _ R h' hR e2 ι H0 w0 a2 w2 (hq2.from k2)
theorem comp_ok(hF:WF F)(hm:P.follows .mixedOrders=true){ih:Ih}(hC:CallOk P ih)(hY:RndOk P ih){ti:TT}(T:TyOk P ti){fd:Fd}(hvs:fd.vs.length≤72){N:Nat}(hrf:F.round=none→RfOk F P N fd ti ih):∀(n:Nat) (c:Code),okC N fd c=true→(F.round=none∨noRf c=true)→CodeOk F P N fd ih c (comp P ti fd n c)
 |0,c,_,_=>fun lo tm H R ι a w h hR _ _=>absurd h.symm hR
 |n+1,c,hok,hro=>fun lo tm H R ι a w h hR hs hd=>by
  have IH:=fun c h1 h2=>comp_ok hF hm hC hY T hvs hrf n c h1 h2;cases c with
  |skip=>subst h;exact wpIn_skip ⟨rfl,ι,hs,Go1.refl hs.choose_spec.2.hr.rel,hd⟩
  |label l=>subst h;exact wpIn_label ⟨rfl,ι,hs,Go1.refl hs.choose_spec.2.hr.rel,hd⟩
  |exit id=>subst h;exact wpIn_exit ⟨rfl,ι,hs,Go1.refl hs.choose_spec.2.hr.rel,hd⟩
  |goto l=>subst h;exact wpIn_goto ⟨rfl,ι,hs,Go1.refl hs.choose_spec.2.hr.rel,hd⟩
  |ret=>subst h;exact wpIn_ret ⟨rfl,ι,hs,Go1.refl hs.choose_spec.2.hr.rel,hd⟩
  |refuse s=>exact absurd h.symm hR
  |region id ops d=>
   refine reg_code (X:=⟨ih,fun tm H=>.nrm tm H⟩) hF hm hC hY T hvs hok hR h hs hd fun s' e' tm' H' θ' ι' a' w' k1 k2 k3 k4 k5 k6=>?_;have:R=.nrm tm' H':=k1.symm;subst this;exact⟨rfl,ι',⟨θ',k3,k4⟩,k5,k6⟩
  |cond c x y=>
   obtain⟨o1,o2⟩:=and_ok hok;obtain⟨o2,o3⟩:=and_ok o2;have hro':F.round=none∨noRf x=true∧noRf y=true:=hro.imp (fun h=>h) fun h=>and_ok (show and (noRf x) (noRf y)=true from h);obtain⟨t,h1,h2⟩:=cdG_inv (show cdG (fun _=>(comp P ti fd n x).f ih tm H) (fun _=>(comp P ti fd n y).f ih tm H) ((opd (s0 ti fd) c).f .emp tm)=R from h) hR;have hs':=hs;obtain⟨θ,htm,hsr⟩:=hs';refine wpIn_cond (cst_cond hsr (s0_ov htm) o1 h1) ?_;cases t with
   |true=>exact IH x o2 (hro'.imp (fun h=>h) And.left) lo tm H R ι a w h2 hR hs hd
   |false=>exact IH y o3 (hro'.imp (fun h=>h) And.right) lo tm H R ι a w h2 hR hs hd
  |block id b=>
   have h':Res.rec (motive:=fun _=>Res) .fail (fun x tm H=>Xt.rec (motive:=fun _=>Res) (fun i=>Bool.rec (motive:=fun _=>Res) (.out (.ex i) tm H) (.nrm tm H) (Nat.beq i id)) (fun l=>.out (.gt l) tm H) (.out .rt tm H) x) (fun tm H=>.nrm tm H) (fun _ _=>.fail) ((comp P ti fd n b).f ih tm H)=R:=h;have hb:=IH b hok hro lo tm H;refine wpIn_block ?_;cases hr:(comp P ti fd n b).f ih tm H with
   |fail=>rw[hr]at h';exact absurd h'.symm hR
   |fv v H1=>rw[hr]at h';exact absurd h'.symm hR
   |nrm tm1 H1=>
    rw[hr]at h';refine wpIn_mono (hb _ ι a w hr (by simp) hs hd) fun e a1 w1 hq=>?_;subst h';obtain⟨rfl,hq⟩:=hq;exact⟨rfl,hq⟩
   |out x tm1 H1=>
    rw[hr]at h';refine wpIn_mono (hb _ ι a w hr (by simp) hs hd) fun e a1 w1 hq=>?_;obtain⟨rfl,hq⟩:=hq;cases x with
    |gt l=>subst h';exact⟨rfl,hq⟩
    |rt=>subst h';exact⟨rfl,hq⟩
    |ex i=>
     show if i=id then _ else _
     by_cases e:i=id
     ·rw[if_pos e];subst e;simp only[Nat.beq_refl]at h';subst h';exact⟨rfl,hq⟩
     ·rw[if_neg e];have:Nat.beq i id=false:=by cases hb:Nat.beq i id with|false=>rfl|true=>exact absurd (Nat.eq_of_beq_eq_true hb) e
      simp only[this]at h';subst h';exact⟨rfl,hq⟩
  |loop b=>exact wpIn_loop_rounds 1000000 (lop_ok (IH b hok hro) 1000000 tm H R ι a w h hR hs hd)
  |scope b=>
   have h':scpN (lblF b (comp P ti fd n)) ih 1000000 ((comp P ti fd n b).f ih tm H)=R:=h;have hl:∀l r,findLabel b l=some r→CodeOk F P N fd ih r (lblF b (comp P ti fd n) l):=fun l r hf=>by
    obtain⟨k1,k2⟩:=find_okC (N:=N) (fd:=fd) hf hok;have:lblF b (comp P ti fd n) l=comp P ti fd n r:=by unfold lblF;rw[hf]
    rw[this];exact IH r k1 (hro.imp (fun h=>h) k2)
   have hn:∀l,findLabel b l=none→∀tm H,(lblF b (comp P ti fd n) l).f ih tm H=.out (.gt l) tm H:=fun l hf tm H=>by unfold lblF;rw[hf]
   have hne:(comp P ti fd n b).f ih tm H≠.fail:=fun he=>by
    rw[he]at h';exact hR h'.symm
   exact wpIn_scope 1000000 (wpIn_mono (IH b hok hro lo tm H _ ι a w rfl hne hs hd) fun e a1 w1 hq=>scp_ok hl hn 1000000 _ R h' hR e ι H w a1 w1 hq)
  |rangeFunc g ps ac bd=>
   rcases hro with hro|hro
   ·exact hrf hro g ps ac bd hok lo tm H R ι a w h hR hs hd
   ·cases hro
  |seq x y=>
   obtain⟨o1,o2⟩:=and_ok hok;have hro':F.round=none∨noRf x=true∧noRf y=true:=hro.imp (fun h=>h) fun h=>and_ok (show and (noRf x) (noRf y)=true from h);unfold comp at h;simp only at h;split at h
   ·rename_i id ops d hreg
    have:=isReg_eq hreg;subst this;split at h
    ·
     rename_i c x1 y1 hcn
     have hyc:y=.cond c x1 y1:=by
      rcases isCnd_eq hcn with⟨-,h⟩|⟨r',hx,-⟩
      ·exact h
      ·cases hx
     subst hyc;obtain⟨p1,p2⟩:=and_ok o2;obtain⟨p2,p3⟩:=and_ok p2;have hro2:F.round=none∨noRf x1=true∧noRf y1=true:=hro'.imp (fun h=>h) fun h=>and_ok (show and (noRf x1) (noRf y1)=true from h.2);refine wpIn_seq (reg_code (X:=⟨ih,fun _ _=>.fail⟩) hF hm hC hY T hvs o1 hR h hs hd fun s' e' tm' H' θ' ι' a' w' k1 k2 k3 k4 k5 k6=>?_);obtain⟨t,h1,h2⟩:=cdG_inv (show cdG (fun _=>(comp P ti fd n x1).f ih tm' H') (fun _=>(comp P ti fd n y1).f ih tm' H') ((opd s' c).f e' tm')=R from k1) hR;refine wpIn_mono (wpIn_cond (cst_cond k4 k2 p1 h1) (Q:=CPost lo N fd.vs ι' H' w' R) ?_) fun e a w hq=>hq.from k5;cases t with
     |true=>exact IH x1 p2 (hro2.imp (fun h=>h) And.left) lo tm' H' R ι' a' w' h2 hR ⟨θ',k3,k4⟩ k6
     |false=>exact IH y1 p3 (hro2.imp (fun h=>h) And.right) lo tm' H' R ι' a' w' h2 hR ⟨θ',k3,k4⟩ k6
    ·rename_i c x1 y1 r1 hcn
     have hyc:y=.seq (.cond c x1 y1) r1:=by
      rcases isCnd_eq hcn with⟨hx,-⟩|⟨r',hx,h⟩
      ·cases hx
      ·cases hx;exact h
     subst hyc;obtain⟨p0,p4⟩:=and_ok o2;obtain⟨p1,p2⟩:=and_ok p0;obtain⟨p2,p3⟩:=and_ok p2;have hro2:F.round=none∨(noRf x1=true∧noRf y1=true)∧noRf r1=true:=hro'.imp (fun h=>h) fun h=>by
      obtain⟨q1,q2⟩:=and_ok (show and (and (noRf x1) (noRf y1)) (noRf r1)=true from h.2);exact⟨and_ok q1,q2⟩
     refine wpIn_seq (reg_code (X:=⟨ih,fun _ _=>.fail⟩) hF hm hC hY T hvs o1 hR h hs hd fun s' e' tm' H' θ' ι' a' w' k1 k2 k3 k4 k5 k6=>?_);obtain⟨t,h1,h2⟩:=cdG_inv (show cdG (fun _=>thnF ((comp P ti fd n x1).f ih tm' H') ih (comp P ti fd n r1)) (fun _=>thnF ((comp P ti fd n y1).f ih tm' H') ih (comp P ti fd n r1)) ((opd s' c).f e' tm')=R from k1) hR;have hcst:Cst N fd.vs ι' tm' H' a' w':=⟨θ',k3,k4⟩;have both:∀(z:Code),okC N fd z=true→(F.round=none∨noRf z=true)→thnF ((comp P ti fd n z).f ih tm' H') ih (comp P ti fd n r1)=R→(∀{Q:Exit→Act→World→Prop},z.wpIn F 0 P Q a' w'→(Code.cond c x1 y1).wpIn F 0 P Q a' w')→(Code.seq (.cond c x1 y1) r1).wpIn F 0 P (CPost lo N fd.vs ι' H' w' R) a' w':=fun z hz1 hz2 hz3 hz4=>by
      have hne:(comp P ti fd n z).f ih tm' H'≠.fail:=fun he=>by rw[he]at hz3;exact hR hz3.symm
      refine seq_code (hz4 (IH z hz1 hz2 lo tm' H' _ ι' a' w' rfl hne hcst k6)) (fun tm1 H1 hr ι1 a1 w1 c1 c2=>?_) fun x2 tm1 H1 hr=>?_
      ·rw[hr]at hz3;exact IH r1 p4 (hro2.imp (fun h=>h) And.right) lo tm1 H1 R ι1 a1 w1 hz3 hR c1 c2
      ·rw[hr]at hz3 ⊢;exact hz3.symm
     refine wpIn_mono (Q:=CPost lo N fd.vs ι' H' w' R) ?_ fun e a w hq=>hq.from k5;cases t with
     |true=>exact both x1 p2 (hro2.imp (fun h=>h) fun h=>h.1.1) h2 fun hw=>wpIn_cond (cst_cond k4 k2 p1 h1) hw
     |false=>exact both y1 p3 (hro2.imp (fun h=>h) fun h=>h.1.2) h2 fun hw=>wpIn_cond (cst_cond k4 k2 p1 h1) hw
    ·
     refine wpIn_seq (reg_code (X:=⟨ih,fun tm H=>(comp P ti fd n y).f ih tm H⟩) hF hm hC hY T hvs o1 hR h hs hd fun s' e' tm' H' θ' ι' a' w' k1 k2 k3 k4 k5 k6=>?_);exact wpIn_mono (IH y o2 (hro'.imp (fun h=>h) And.right) lo tm' H' R ι' a' w' k1 hR ⟨θ',k3,k4⟩ k6) fun e a w hq=>hq.from k5
   ·have h':Res.rec (motive:=fun _=>Res) .fail (fun x tm H=>.out x tm H) (fun tm H=>(comp P ti fd n y).f ih tm H) (fun _ _=>.fail) ((comp P ti fd n x).f ih tm H)=R:=h;have hne:(comp P ti fd n x).f ih tm H≠.fail:=fun he=>by rw[he]at h';exact hR h'.symm
    refine seq_code (IH x o1 (hro'.imp (fun h=>h) And.left) lo tm H _ ι a w rfl hne hs hd) (fun tm1 H1 hr ι1 a1 w1 c1 c2=>?_) fun x2 tm1 H1 hr=>?_
    ·rw[hr]at h';exact IH y o2 (hro'.imp (fun h=>h) And.right) lo tm1 H1 R ι1 a1 w1 h' hR c1 c2
    ·rw[hr]at h' ⊢;exact h'.symm
end Go.Proofs.YtglihimiidiacaaGreatDoor.Ev8
namespace Go.Proofs.YtglihimiidiacaaGreatDoor.Ev8
open Go
variable {P:Program} {ι ι':Io} {F:Fence} {lo:Nat}
theorem asFn_ok{v:AV}{C:Nat→AV→Res}{R:Res}(h:asFn v C=R)(hR:R≠.fail):∃f l,v=.k 2 f l∧C f l=R:=by
 cases v<;>first|(exact absurd h.symm hR)|skip
 rename_i z f l
 obtain⟨c1,h1⟩:=tst hR h;have hz:z=2:=Nat.eq_of_beq_eq_true c1;subst hz;exact⟨f,l,rfl,h1⟩
theorem tv_rv{N:Nat}{vs:List Nat}{tm:TM}{H:HS}{a:Act}{w:World}(h:Cst N vs ι tm H a w)(t:Nat):RV ι (tv vs tm t) (a.tmps.getD t undef):=by
 obtain⟨θ,h1,h2⟩:=h;unfold tv;cases hp:pos t vs 0 with
 |none=>exact⟨_,rfl⟩
 |some n=>simp only;rw[h1 t n hp];exact h2.tr t
def xtC:Xt→Code|.ex i=>.exit i|.gt l=>.goto l|.rt=>.ret
theorem xtC_wp{x:Xt}{Q:Exit→Act→World→Prop}{a:Act}{w:World}(h:Q (xtE x) a w):(xtC x).wpIn F 0 P Q a w:=by
 cases x with
 |ex i=>exact wpIn_exit h
 |gt l=>exact wpIn_goto h
 |rt=>exact wpIn_ret h
theorem lp_rec{H:HS}{w:World}(hr:HR ι H w){b:Nat}{E:Ent}(hE:ι b=some E){fd:Fd}{tm:TM}{ps:List Tmp}{ac bd:Code}{pd:Option Xt}(hb:get 7 b H.h=.lp fd tm ps ac bd pd):∃(f:FuncId) (tmps:Array Value) (D:Nat),w.heap[E.b]?=some (.loop {state:=if pd.isSome then .done else .ready,pending:=pd.map xtC,fn:=f,tmps:=tmps,params:=ps.toArray,assign:=ac,body:=bd,defers:=D})∧(∀t,RV ι (tv fd.vs tm t) (tmps.getD t undef))∧LpOk fd ps ac bd tmps.size:=by
 obtain⟨h1,-⟩:=hr.at hE;obtain⟨E',hE',hB⟩:=hr.rel.blk b (by rw[h1,hb];rfl);rw[hE]at hE';cases hE';rw[h1,hb]at hB;obtain⟨f,tmps,D,k1,k2,k3⟩:=hB;refine⟨f,tmps,D,?_,k2,k3⟩;rw[k1];have:(pd.map fun x=>match x with|.ex i=>Code.exit i|.gt l=>Code.goto l|.rt=>Code.ret)=pd.map xtC:=by cases pd with|none=>rfl|some x=>cases x<;>rfl
 rw[←this];rfl
theorem rf_ok(hF:WF F){ih:Ih}(hC:CallOk P ih){ti:TT}{fd:Fd}(hvs:fd.vs.length≤72){N:Nat}(hro:F.round=none):RfOk F P N fd ti ih:=by
 intro g ps ac bd hok lo tm H R ι a w h hR hs hd;obtain⟨o1,o2⟩:=and_ok hok;obtain⟨o0,o1⟩:=and_ok o1;obtain⟨o2,o3⟩:=and_ok o2;obtain⟨oA,oB⟩:=and_ok o2;obtain⟨nA,nB⟩:=and_ok o3;obtain⟨θ,htm,hsr⟩:=id hs;obtain⟨f,cap,hg,h⟩:=asFn_ok h hR;obtain⟨h0,nx⟩:=H;obtain⟨c1,h⟩:=iB_ok hR h;have hnx:nx<16384:=blt_lt c1;rw[pw_put,fN_eq]at h;obtain⟨t,n,h,hl,hTL⟩:=tmL_ok h hR;have hgv:RV ι (.k 2 f cap) (a.eval g):=by
  have:=aev_rv hsr.gl o0 fun t _=>hsr.tr t;rwa[(s0_ov (ti:=ti) htm).is hg (by simp)]at this
 obtain⟨ws,hws,hge⟩:=hgv.fn;refine wpIn_rangeFunc fun fn hfn=>?_;rw[hro];have hsz:a.tmps.size=N:=hsr.sz;let wd:=w.alloc (.deferred (some []))
 let w1:=wd.alloc (.loop {state:=.ready,pending:=none,fn:=fn,tmps:=a.tmps,params:=ps,assign:=ac,body:=bd,defers:=w.heap.size})
 have hwd:wd.heap=w.heap.push (.deferred (some [])):=rfl;have hw1:w1.heap=wd.heap.push (.loop {state:=.ready,pending:=none,fn:=fn,tmps:=a.tmps,params:=ps,assign:=ac,body:=bd,defers:=w.heap.size}):=rfl;have hszd:wd.heap.size=w.heap.size+1:=by rw[hwd];simp
 have hreld:Rel ι (hp h0) nx wd:=hsr.hr.rel.push hwd;have g0:Go1 ι (hp h0) w ι (hp h0) nx wd:=Go1.push hsr.hr.rel hwd;let E:Ent:=⟨w.heap.size+1,0,0,0⟩
 have hBR:BR (upd ι nx (some E)) w1 E (hv (.lp fd tm ps.toList ac bd none)):=by
  have hle:Le ι (upd ι nx (some E)):=fun b e hb=>by
   by_cases q:b=nx
   ·subst q;rw[hreld.new b (Nat.le_refl _)]at hb;cases hb
   ·rwa[upd_ne _ q]
  refine⟨fn,a.tmps,w.heap.size,?_,fun t=>(tv_rv hs t).mono hle,hvs,by rw[hsz];exact oA,by rw[hsz];exact oB,by rw[hsz];exact o1,nA,nB⟩;rw[hw1];show(wd.heap.push _)[w.heap.size+1]?=_;rw[←hszd];simp
 have g1:Go1 ι (hp h0) wd (upd ι nx (some E)) (upd (hp h0) nx (hv (.lp fd tm ps.toList ac bd none))) (nx+1) w1:=hreld.lay (show E.b=_ by rw[hszd]) (by rw[hw1];simp) (fun B hB=>by rw[hw1,Array.getElem?_push_lt hB];simp[hB]) hBR;have hr1:HR (upd ι nx (some E)) ⟨Ev8.put 7 nx (.lp fd tm ps.toList ac bd none) h0,nx+1⟩ w1:=HR.put hsr.hr hnx hvs (by omega) g1.le g1.rel ((hsr.hr.sn.go g0).go g1);have hrl:RL (upd ι nx (some E)) (.cons (.r 1 nx) cap) (Value.func (.yield (w.heap.size+1)) #[] #[]::ws):=⟨_,_,rfl,⟨E,upd_same ..,_,rfl,rfl⟩,hws.mono g1.le⟩;have hta:TA (upd ι nx (some E)) t (Value.func (.yield (w.heap.size+1)) #[] #[]::ws).toArray:=hTL.ta hl hrl;cases hcall:ih.c f (lenA (.cons (.r 1 nx) cap)) t ⟨Ev8.put 7 nx (.lp fd tm ps.toList ac bd none) h0,nx+1⟩ with
 |fail=>rw[hcall]at h;exact absurd h.symm hR
 |out x tm' H'=>rw[hcall]at h;exact absurd h.symm hR
 |nrm tm' H'=>rw[hcall]at h;exact absurd h.symm hR
 |fv v H2=>
  rw[hcall]at h;obtain⟨h2,nx2⟩:=H2;simp only at h;rcases hC f _ t _ v _ hcall _ w1 _ hr1 hta (lenA_sz hl hrl) with⟨q1,q2⟩|⟨u,-,-,-,l,b,hst⟩
  ·refine⟨w.heap.size+1,[mrk w.heap.size],w1,⟨.fn (.func f) ws.toArray,#[.func (.yield (w.heap.size+1)) #[] #[]]⟩,w1,f,(Value.func (.yield (w.heap.size+1)) #[] #[]::ws).toArray,w1,run_enterLoop_outer ..,?_,fun f' _=>hF.fn f',?_,(fun hdp=>by rw[hF.dep]at hdp;cases hdp),hF.calls (q2.mono fun e w3 hq=>?_)⟩
   ·show(Deferred.ofValue (a.eval g) (#[Operand.const (.func (.yield (w.heap.size+1)) #[] #[])].map a.eval)).run P w1=_;rw[hge];simp[Deferred.ofValue,Act.eval]
   ·have e1:(#[Value.func (.yield (w.heap.size+1)) #[] #[]]++ws.toArray)=(Value.func (.yield (w.heap.size+1)) #[] #[]::ws).toArray:=by apply Array.toList_inj.1;simp
    simp only[invoke];rw[e1];exact q1
   ·obtain⟨u,ι2,rfl,hv2,hr2,g2⟩:=hq;cases hb:(gw Blk 7 nx).f h2 with
    |no=>rw[hb]at h;exact absurd h.symm hR
    |m es=>rw[hb]at h;exact absurd h.symm hR
    |s q cs k=>rw[hb]at h;exact absurd h.symm hR
    |c q cs k=>rw[hb]at h;exact absurd h.symm hR
    |o a=>rw[hb]at h;exact absurd h.symm hR
    |lp fd' tm' ps' ac' bd' pd=>
     rw[hb]at h;simp only[pw_put]at h;have hE2:ι2 nx=some E:=g2.le nx E (upd_same ..);obtain⟨f',tmps',D',k1,-,-⟩:=lp_rec hr2 hE2 hb;have hlt:E.b<w3.heap.size:=hp_lt k1;have hend:=run_endLoop (P:=P) k1 (by cases pd<;>simp);refine⟨_,_,hend,?_⟩;let w4:=w3.putObj E.b (.loop {state:=.exhausted,pending:=pd.map xtC,fn:=f',tmps:=tmps',params:=ps'.toArray,assign:=ac',body:=bd',defers:=D'})
     have hdd:dead (hp h2 nx)=false:=by
      have:=(hr2.at hE2).1;rw[show(HS.mk h2 nx2).h=h2 from rfl]at this;rw[this,show get 7 nx h2=_ from hb];rfl
     have g3:Go1 ι2 (hp h2) w3 ι2 (upd (hp h2) nx .no) nx2 w4:=Go1.turn hr2.rel hE2 hdd (by simp[w4]) (fun B hB=>World.putObj_heap_other hB) trivial (fun h=>by cases h);have hr4:HR ι2 ⟨Ev8.put 7 nx .no h2,nx2⟩ w4:=HR.put hr2 hnx trivial hr2.nx (Le.refl _) g3.rel (hr2.sn.go g3);have hp4:hp (Ev8.put 7 nx .no h2)=upd (hp h2) nx .no:=hp_put .no h2 hnx;have hp1:hp (Ev8.put 7 nx (.lp fd tm ps.toList ac bd none) h0)=upd (hp h0) nx (hv (.lp fd tm ps.toList ac bd none)):=hp_put _ h0 hnx;have g2':Go1 (upd ι nx (some E)) (upd (hp h0) nx (hv (.lp fd tm ps.toList ac bd none))) w1 ι2 (hp h2) nx2 w3:=by rw[←hp1];exact g2
     have gd:Go1 ι (hp h0) wd ι2 (hp (Ev8.put 7 nx .no h2)) nx2 w4:=by rw[hp4];exact(g1.trans g2').trans g3
     have hdf:Dfs lo ι (hp h0) wd (mrk w.heap.size::a.defers):=by
      obtain⟨d0,rs,d1,d2,d3⟩:=hd;refine⟨by omega,w.heap.size::rs,by rw[d1];rfl,List.nodup_cons.2 ⟨fun hm=>?_,d2⟩,fun r hr=>?_⟩
      ·have:=hp_lt (d3 _ hm).1;omega
      ·rcases List.mem_cons.1 hr with rfl|hr
       ·refine⟨by rw[hwd];simp,fun⟨b,E',_,e2,e3⟩=>?_,d0⟩;have:=hsr.hr.rel.inn b E' e2;omega
       ·obtain⟨e1,e2,e3⟩:=d3 r hr;refine⟨?_,e2,e3⟩;have:=hp_lt e1;rw[hwd,Array.getElem?_push_lt this,←e1];simp[this]
     have hend':CEnd lo N fd.vs ι ⟨h0,nx⟩ w tm ⟨Ev8.put 7 nx .no h2,nx2⟩ {a with defers:=[mrk w.heap.size]++a.defers} w4:=
      ⟨ι2,⟨θ,htm,hr4,fun t=>(hsr.tr t).mono gd.le,hsr.gl.le gd.le,hsr.sz⟩,g0.trans gd,hdf.go gd⟩
     cases pd with
     |none=>
      have:R=.nrm tm ⟨Ev8.put 7 nx .no h2,nx2⟩:=h.symm;subst this;exact⟨rfl,hend'⟩
     |some x=>
      have:R=.out x tm ⟨Ev8.put 7 nx .no h2,nx2⟩:=h.symm;subst this;exact xtC_wp ⟨rfl,hend'⟩
  ·have:=hTL 0 (by omega);rw[hst]at this;split at this<;>simp[nthA]at this
end Go.Proofs.YtglihimiidiacaaGreatDoor.Ev8
namespace Go.Proofs.YtglihimiidiacaaGreatDoor.Ev8
open Go
variable {P:Program} {ι ι':Io} {F:Fence}
def TT1(ι:Io)(vs:List Nat)(tm:TM)(tmps:Array Value):Prop:=∀t,RV ι (tv vs tm t) (tmps.getD t undef)
theorem TT1.put{vs:List Nat}(hvs:vs.length≤72){tm:TM}{tmps:Array Value}(h:TT1 ι vs tm tmps){p q:Nat}(hq:pos p vs 0=some q)(hp:p<tmps.size){x:AV}{v:Value}(hx:RV ι x v):TT1 ι vs (tput q x tm) (tmps.setIfInBounds p v):=by
 intro t;have hq72:q<72:=by have:=(pos_ge hq).2;omega
 by_cases e:t=p
 ·subst e;have:tv vs (tput q x tm) t=x:=by unfold tv;rw[hq];exact tget_tput q x tm
  rw[this];simp[hp];exact hx
 ·have h1:(tmps.setIfInBounds p v).getD t undef=tmps.getD t undef:=by
   simp only[Array.getD_eq_getD_getElem?];rw[Array.getElem?_setIfInBounds_ne (Ne.symm e)]
  have h2:tv vs (tput q x tm) t=tv vs tm t:=by
   unfold tv;cases hn:pos t vs 0 with
   |none=>rfl
   |some n=>
    have hn72:n<72:=by have:=(pos_ge hn).2;omega
    exact tget_ne x tm hq72 hn72 fun hqn=>e (pos_inj hn (by rw[←hqn];exact hq))
  rw[h1,h2];exact h t
theorem nlC_ok{l:AV}{C:Unit→Res}{R:Res}(h:nlC l C=R)(hR:R≠.fail):l=.nil∧C ()=R:=by
 cases l<;>first|exact⟨rfl,h⟩|exact absurd h.symm hR
theorem setP_ok{vs:List Nat}(hvs:vs.length≤72):∀{ps:List Tmp} {l:AV} {tm:TM} {C:TM→Res} {R:Res},setP vs ps l tm C=R→R≠.fail→∃tm',C tm'=R∧∀(ι:Io) (args:List Value) (tmps:Array Value),RL ι l args→(ps.all fun p=>Nat.blt p tmps.size)=true→TT1 ι vs tm tmps→args.length=ps.length∧TT1 ι vs tm' ((ps.zip args).foldl (fun t x=>t.setIfInBounds x.1 x.2) tmps)∧((ps.zip args).foldl (fun t x=>t.setIfInBounds x.1 x.2) tmps).size=tmps.size
 |[],l,tm,C,R,h,hR=>by
  obtain⟨rfl,h⟩:=nlC_ok (show nlC l (fun _=>C tm)=R from h) hR;refine⟨tm,h,fun ι args tmps hl _ ht=>?_⟩;have:args=[]:=hl;subst this;exact⟨rfl,ht,rfl⟩
 |p::ps,l,tm,C,R,h,hR=>by
  obtain⟨x,l',rfl,h⟩:=asK_ok h hR;obtain⟨q,hq,h⟩:=oR_ok h hR;rw[tw_put]at h;obtain⟨tm',h1,h2⟩:=setP_ok hvs h hR;refine⟨tm',h1,fun ι args tmps hl ha ht=>?_⟩;obtain⟨v,ws,rfl,k1,k2⟩:=hl;obtain⟨a1,a2⟩:=and_ok (show and (Nat.blt p tmps.size) (ps.all fun p=>Nat.blt p tmps.size)=true from ha);obtain⟨e1,e2,e3⟩:=h2 ι ws (tmps.setIfInBounds p v) k2 (by simpa using a2) (ht.put hvs hq (blt_lt a1) k1);exact⟨by simp[e1],e2,by rw[show((p::ps).zip (v::ws))=(p,v)::ps.zip ws from rfl,List.foldl_cons];simpa using e3⟩
theorem Rel.other{h:Hp}{nx:Nat}{w w':World}(hr:Rel ι h nx w){B:Nat}(hn:¬Own ι h B)(hs:w'.heap.size=w.heap.size)(hk:∀B',B'≠B→w'.heap[B']?=w.heap[B']?):Rel ι h nx w' where
 blk b hb:=by
  obtain⟨E,h1,h2⟩:=hr.blk b hb;exact⟨E,h1,h2.heap (hk _ fun q=>hn ⟨b,E,hb,h1,q⟩)⟩
 new:=hr.new
 apart:=hr.apart
 inn b E hE:=by rw[hs];exact hr.inn b E hE
theorem Rel.back{h:Hp}{nx:Nat}{w w':World}(hr:Rel ι h nx w){b:Nat}{E:Ent}(hE:ι b=some E)(hn:¬Own ι h E.b)(hs:w'.heap.size=w.heap.size)(hk:∀B',B'≠E.b→w'.heap[B']?=w.heap[B']?){s:SB}(hB:BR ι w' E s):Rel ι (upd h b s) nx w' where
 blk b' hb:=by
  by_cases q:b'=b
  ·subst q;rw[upd_same];exact⟨E,hE,hB⟩
  ·rw[upd_ne _ q]at hb ⊢;obtain⟨E',h1,h2⟩:=hr.blk b' hb;exact⟨E',h1,h2.heap (hk _ fun q=>hn ⟨b',E',hb,h1,q⟩)⟩
 new:=hr.new
 apart b1 b2 E1 E2 h1 h2 e1 e2 he:=by
  by_cases q1:b1=b
  ·by_cases q2:b2=b
   ·rw[q1,q2]
   ·rw[upd_ne _ q2]at h2;subst q1;rw[hE]at e1;cases e1;exact absurd ⟨b2,E2,h2,e2,he.symm⟩ hn
  ·rw[upd_ne _ q1]at h1;by_cases q2:b2=b
   ·subst q2;rw[hE]at e2;cases e2;exact absurd ⟨b1,E1,h1,e1,he⟩ hn
   ·rw[upd_ne _ q2]at h2;exact hr.apart b1 b2 E1 E2 h1 h2 e1 e2 he
 inn b E hE:=by rw[hs];exact hr.inn b E hE
theorem rnd_ok{V:Vw}(hm:V.P.follows .mixedOrders=true){ih:Ih}(hC:CallOk V.P ih)(hY:RndOk V.P ih)(T:TyOk V.P V.ti):∀b a H v H',rndF V ih b a H=.fv v H'→∀ι w E (args:Array Value),HR ι H w→ι b=some E→RL ι a args.toList→
 ∃f tmps ac bd,(Instr.yield E.b args).run V.P w=.ok (.round E.b f tmps ac bd) w∧RoundIn Fence.wide 0 V.P E.b f tmps ac bd w (RetP ι H w v H'):=by
 intro b a H v H' h ι w E args hr hE hargs;obtain⟨h0,nx⟩:=H;have hR:(Res.fv v H')≠.fail:=by simp
 change Blk.rec (motive:=fun _=>Res) .fail (rndB V ih b a h0 nx) (fun _=>.fail) (fun _ _ _=>.fail) (fun _ _ _=>.fail) (fun _=>.fail) ((gw Blk 7 b).f h0)=_ at h;cases hb:(gw Blk 7 b).f h0 with
 |no=>rw[hb]at h;exact absurd h.symm hR
 |m es=>rw[hb]at h;exact absurd h.symm hR
 |s q cs k=>rw[hb]at h;exact absurd h.symm hR
 |c q cs k=>rw[hb]at h;exact absurd h.symm hR
 |o a=>rw[hb]at h;exact absurd h.symm hR
 |lp fd tm0 ps ac bd pd=>
  rw[hb]at h;cases pd with
  |some x=>exact absurd h.symm hR
  |none=>
   change (setP fd.vs ps a tm0 fun tm=>(pw Blk 7 b).f .no h0 fun h=>rndE b fd tm0 ps ac bd (rndA (comp V.P V.ti fd 300 ac) (comp V.P V.ti fd 300 bd) ih tm ⟨h,nx⟩))=_ at h;obtain⟨f,tmps,D,k1,k2,k3⟩:=lp_rec hr hE hb;obtain⟨hvs,okA,okB,okP,nA,nB⟩:=id k3;obtain⟨tm,h,hset⟩:=setP_ok hvs h hR;obtain⟨hlen,hT,hsz⟩:=hset ι args.toList tmps hargs okP k2;rw[pw_put]at h;have hb16:b<16384:=hr.blt hE;have hbs:E.b<w.heap.size:=hp_lt k1;generalize htm':(ps.zip args.toList).foldl (fun t x=>t.setIfInBounds x.1 x.2) tmps=tmps' at hT hsz;have hy:=run_yield (P:=V.P) (args:=args) k1 (by simpa using hlen);refine⟨f,tmps',ac,bd,?_,roundIn_of_wpIn trivial ?_⟩
   ·rw[hy];have:((ps.toArray.zip args).foldl (fun tmps (x:Tmp×Value)=>tmps.setIfInBounds x.1 x.2) tmps)=tmps':=by
     rw[←htm',←Array.foldl_toList];simp
    rw[←this]
   have hF1:WF (Fence.wide.inRound E.b):=.inr ⟨E.b,rfl⟩;have hrd:(Fence.wide.inRound E.b).round≠none:=fun q=>by cases q
   have hcm:∀c,okC tmps.size fd c=true→noRf c=true→CodeOk (Fence.wide.inRound E.b) V.P tmps.size fd ih c (comp V.P V.ti fd 300 c):=fun c h1 h2=>comp_ok hF1 hm hC hY T hvs (fun q=>absurd q hrd) 300 c h1 (.inr h2);have hpk:hp (Ev8.put 7 b .no h0)=upd (hp h0) b .no:=hp_put .no h0 hb16;have hrk:HR ι ⟨Ev8.put 7 b .no h0,nx⟩ w:=hr.put hb16 (B:=.no) trivial hr.nx (Le.refl _) (hr.rel.kill b) (hr.sn.kill b);have hal:dead (hp h0 b)=false:=by
    have:=(hr.at hE).1;rw[show(HS.mk h0 nx).h=h0 from rfl]at this;rw[this,show get 7 b h0=_ from hb];rfl
   have hnk:¬Own ι (hp (Ev8.put 7 b .no h0)) E.b:=fun⟨b',E',d1,d2,d3⟩=>by
    rw[hpk]at d1;by_cases q:b'=b
    ·subst q;rw[upd_same]at d1;cases d1
    ·rw[upd_ne _ q]at d1;exact q (hr.rel.apart b' b E' E d1 hal d2 hE d3)
   have hown0:Own ι (hp h0) E.b:=⟨b,E,hal,hE,rfl⟩;have hnof:∀B,¬Own ι (hp h0) B→¬Own ι (hp (Ev8.put 7 b .no h0)) B:=fun B hB ⟨b',E',d1,d2,d3⟩=>by
    rw[hpk]at d1;by_cases q:b'=b
    ·subst q;rw[upd_same]at d1;cases d1
    ·rw[upd_ne _ q]at d1;exact hB ⟨b',E',d1,d2,d3⟩
   have hc0:Cst tmps.size fd.vs ι tm ⟨Ev8.put 7 b .no h0,nx⟩ {tmps:=tmps',defers:=[]} w:=⟨tv fd.vs tm,fun t n ht=>by unfold tv;rw[ht],hrk,hT,hr.gl,hsz⟩;have hd0:Dfs 0 ι (hp (Ev8.put 7 b .no h0)) w []:=⟨Nat.zero_le _,[],rfl,List.nodup_nil,fun r h=>by cases h⟩;generalize hA:(comp V.P V.ti fd 300 ac).f ih tm ⟨Ev8.put 7 b .no h0,nx⟩=RA at h;unfold rndA at h;rw[hA]at h;cases RA with
   |fail=>exact absurd h.symm hR
   |fv v H=>exact absurd h.symm hR
   |out x tm1 H1=>exact absurd h.symm hR
   |nrm tm1 H1=>
    refine wpIn_mono (hcm ac okA nA 0 tm _ _ ι _ w hA (by simp) hc0 hd0) fun e a1 w1 hq=>?_;obtain⟨rfl,ι1,c1,g1,d1⟩:=hq;have hn1:¬Own ι1 (hp H1.h) E.b:=fun ho=>by
     rcases g1.own _ ho with q|q
     ·exact hnk q
     ·omega
    have k1':w1.heap[E.b]?=_:=(g1.keep E.b hbs hnk).trans k1;have hbr:=run_beginRound (P:=V.P) k1' rfl;refine⟨_,hbr,?_⟩;let w2:=w1.putObj E.b (.loop {state:=.busy,pending:=none,fn:=f,tmps:=tmps,params:=ps.toArray,assign:=ac,body:=bd,defers:=D})
    have hs2:w2.heap.size=w1.heap.size:=by simp[w2]
    have ho2:∀B',B'≠E.b→w2.heap[B']?=w1.heap[B']?:=fun B' hB=>World.putObj_heap_other hB;have hbs1:E.b<w1.heap.size:=hp_lt k1';obtain⟨θ1,t1,s1⟩:=c1;have hr2:HR ι1 H1 w2:=⟨s1.hr.rel.other hn1 hs2 ho2,s1.hr.ok,s1.hr.nx,s1.hr.gl,s1.hr.sn.other ho2 fun arr t fr e=>by rw[k1']at e;cases e⟩;have c2:Cst tmps.size fd.vs ι1 tm1 H1 a1 w2:=⟨θ1,t1,hr2,s1.tr,s1.gl,s1.sz⟩;have d2:Dfs 0 ι1 (hp H1.h) w2 a1.defers:=by
     obtain⟨-,rs,e1,e2,e3⟩:=d1;refine⟨Nat.zero_le _,rs,e1,e2,fun r hr'=>?_⟩;obtain⟨f1,f2⟩:=e3 r hr';refine⟨(ho2 r fun q=>?_).trans f1,f2⟩;rw[q,k1']at f1;cases f1
    have hE1:ι1 b=some E:=g1.le b E hE;have k2':w2.heap[E.b]?=some (.loop {state:=.busy,pending:=none,fn:=f,tmps:=tmps,params:=ps.toArray,assign:=ac,body:=bd,defers:=D}):=World.putObj_heap_same hbs1;have fin:∀(pd:Option Xt) (tm2:TM) (H2:HS) (a3:Act) (w3:World),(Res.fv (.b pd.isNone) ⟨Ev8.put 7 b (.lp fd tm0 ps ac bd pd) H2.h,H2.nx⟩=.fv v H')→CEnd 0 tmps.size fd.vs ι1 H1 w2 tm2 H2 a3 w3→∃v' w',(Instr.endRound E.b (pd.map xtC)).run V.P w3=.ok v' w'∧RetP ι ⟨h0,nx⟩ w v H' (.returned v') w':=by
     intro pd tm2 H2 a3 w3 hres hend;obtain⟨ι2,⟨θ2,t2,s2⟩,g2,-⟩:=hend;have k3':w3.heap[E.b]?=_:=(g2.keep E.b (by rw[hs2];exact hbs1) hn1).trans k2';have hn2:¬Own ι2 (hp H2.h) E.b:=fun ho=>by
      rcases g2.own _ ho with q|q
      ·exact hn1 q
      ·omega
     have hE2:ι2 b=some E:=g2.le b E hE1;have hrun:=run_endRound (P:=V.P) (pd.map xtC) k3';cases hres;refine⟨_,_,hrun,.bool pd.isNone,ι2,by cases pd<;>rfl,rfl,?_⟩;generalize hw4:w3.putObj E.b _=w4;have hs4:w4.heap.size=w3.heap.size:=by rw[←hw4];simp
     have ho4:∀B',B'≠E.b→w4.heap[B']?=w3.heap[B']?:=fun B' hB=>by rw[←hw4];exact World.putObj_heap_other hB
     have k4:w4.heap[E.b]?=some (.loop {state:=if (pd.map xtC).isNone then .ready else .done,pending:=pd.map xtC,fn:=f,tmps:=tmps,params:=ps.toArray,assign:=ac,body:=bd,defers:=D}):=by rw[←hw4];exact World.putObj_heap_same (hp_lt k3')
     have hBR:BR ι2 w4 E (hv (.lp fd tm0 ps ac bd pd)):=by
      refine⟨f,tmps,D,?_,fun t=>(k2 t).mono (g1.le.trans g2.le),k3⟩;rw[k4];cases pd with
      |none=>rfl
      |some x=>cases x<;>rfl
     have hrel:=s2.hr.rel.back hE2 hn2 hs4 ho4 hBR;have hp5:hp (Ev8.put 7 b (.lp fd tm0 ps ac bd pd) H2.h)=upd (hp H2.h) b (hv (.lp fd tm0 ps ac bd pd)):=hp_put _ _ hb16;have hr5:HR ι2 ⟨Ev8.put 7 b (.lp fd tm0 ps ac bd pd) H2.h,H2.nx⟩ w4:=HR.put (h:=H2.h) (nx:=H2.nx) s2.hr hb16 hvs s2.hr.nx (Le.refl _) hrel (s2.hr.sn.back hE2 ho4 fun arr t fr e=>by rw[k3']at e;cases e);have he4:Env w3 w4:=by rw[←hw4];exact⟨rfl,rfl,rfl⟩
     have he2:Env w1 w2:=⟨rfl,rfl,rfl⟩;refine⟨hr5,g1.le.trans g2.le,hr5.rel,?_,fun B hB hn=>?_,fun B hB=>?_,⟨he4.1.trans (g2.env.1.trans (he2.1.trans g1.env.1)),he4.2.1.trans (g2.env.2.1.trans (he2.2.1.trans g1.env.2.1)),he4.2.2.trans (g2.env.2.2.trans (he2.2.2.trans g1.env.2.2))⟩,fun B hB hO arr t fr ha=>?_⟩;rotate_left 3
     ·by_cases hne:B=E.b
      ·rw[hne,k1]at ha;cases ha
      ·obtain⟨b',E',q1,q2,q3⟩:=hO;have e:b'≠b:=fun e=>by subst e;rw[hE2]at q2;cases q2;exact hne q3.symm
       have q1':dead (hp H2.h b')=false:=by
        rw[show(HS.mk (Ev8.put 7 b (.lp fd tm0 ps ac bd pd) H2.h) H2.nx).h=Ev8.put 7 b (.lp fd tm0 ps ac bd pd) H2.h from rfl,hp5,upd_ne _ e]at q1;exact q1
       have hB1:B<w2.heap.size:=by have:=g1.size;omega
       have o2:Own ι2 (hp H2.h) B:=⟨b',E',q1',q2,q3⟩;have o1:Own ι1 (hp H1.h) B:=(g2.own B o2).resolve_right (by omega);obtain⟨a1,x1,y1⟩:=g1.shp B hB o1 arr t fr ha;obtain⟨a2,x2,y2⟩:=g2.shp B hB1 o2 a1 t fr ((ho2 B hne).trans x1);exact⟨a2,(ho4 B hne).trans x2,y2.trans y1⟩
     ·have:=g1.size;have:=g2.size;omega
     ·have hne:B≠E.b:=fun q=>hn (by rw[q];exact hown0);have e1:=g1.keep B hB (hnof B hn);have hn1':¬Own ι1 (hp H1.h) B:=fun ho=>by
       rcases g1.own _ ho with q|q
       ·exact hnof B hn q
       ·omega
      have e2:=g2.keep B (by have:=g1.size;omega) hn1';rw[ho4 B hne,e2,ho2 B hne,e1]
     ·obtain⟨b',E',q1,q2,q3⟩:=hB;by_cases e:b'=b
      ·subst e;rw[hE2]at q2;cases q2;rw[←q3];exact .inl hown0
      ·have q1':dead (hp H2.h b')=false:=by
        rw[show(HS.mk (Ev8.put 7 b (.lp fd tm0 ps ac bd pd) H2.h) H2.nx).h=Ev8.put 7 b (.lp fd tm0 ps ac bd pd) H2.h from rfl,hp5,upd_ne _ e]at q1;exact q1
       rcases g2.own B ⟨b',E',q1',q2,q3⟩ with q|q
       ·rcases g1.own B q with q|q
        ·left
         obtain⟨b2,E2,z1,z2⟩:=q;refine⟨b2,E2,?_,z2⟩;rw[hpk]at z1;by_cases e2:b2=b
         ·subst e2;rw[upd_same]at z1;cases z1
         ·rwa[upd_ne _ e2]at z1
        ·exact .inr q
       ·right;have:=g1.size;omega
    cases hB:(comp V.P V.ti fd 300 bd).f ih tm1 H1 with
    |fail=>simp only[hB,rndE]at h;exact absurd h.symm hR
    |fv v H=>simp only[hB,rndE]at h;exact absurd h.symm hR
    |nrm tm2 H2=>
     simp only[hB]at h;obtain⟨h2,nx2⟩:=H2;change (pw Blk 7 b).f (.lp fd tm0 ps ac bd none) h2 (fun h=>Res.fv (.b true) ⟨h,nx2⟩)=_ at h;rw[pw_put]at h;refine wpIn_mono (hcm bd okB nB 0 tm1 H1 _ ι1 a1 w2 hB (by simp) c2 d2) fun e a3 w3 hq=>?_;obtain⟨rfl,hq⟩:=hq;exact fin none tm2 ⟨h2,nx2⟩ a3 w3 h hq
    |out x tm2 H2=>
     simp only[hB]at h;obtain⟨h2,nx2⟩:=H2;change (pw Blk 7 b).f (.lp fd tm0 ps ac bd (some x)) h2 (fun h=>Res.fv (.b false) ⟨h,nx2⟩)=_ at h;rw[pw_put]at h;refine wpIn_mono (hcm bd okB nB 0 tm1 H1 _ ι1 a1 w2 hB (by simp) c2 d2) fun e a3 w3 hq=>?_;obtain⟨rfl,hq⟩:=hq;have:=fin (some x) tm2 ⟨h2,nx2⟩ a3 w3 h hq;cases x<;>exact this
end Go.Proofs.YtglihimiidiacaaGreatDoor.Ev8
namespace Go.Proofs.YtglihimiidiacaaGreatDoor.Ev8
open Go
variable {P:Program} {ι ι':Io} {F:Fence} {lo:Nat}
theorem LStep.rd{θ:Te}{H:HS}{o:Oper}{u:AV}(h:LStep P θ H o u){a:Act}{w:World}(hr:HR ι H w)(hO:Ops ι θ o a):Rd P ι w a.eval o u:=by
 obtain⟨t,x,b,q,f,n,ho,hx,hrow,hc⟩:=h;have h2:=hO x (by simp[ho,Op.operands]);rw[hx]at h2;obtain⟨E,hE,-⟩:=h2.ptr;obtain⟨hh,hok⟩:=hr.at hE;rcases hrow (hr.blt hE) with⟨τ,cs,hB,rfl⟩|⟨τ,cs,hB,rfl⟩
 ·rw[hB]at hok hh;have hok':n≤16:=hok;rcases hc with⟨ht,hq,rfl⟩|⟨m,ht,hz,hq,rfl⟩
  ·show Rd P ι w a.eval o (get 2 q cs);rw[←vw_get (d:=2) (by omega)];exact rd_load1 ho hr.rel h2 hh hq ht
  ·rw[map_vw (d:=2) (by omega)];exact rd_loadA ho hr.rel h2 hh hq ht hz
 ·rw[hB]at hok hh;have hok':n≤4096:=hok;rcases hc with⟨ht,hq,rfl⟩|⟨m,ht,hz,hq,rfl⟩
  ·show Rd P ι w a.eval o (get 6 q cs);rw[←vw_get (d:=6) (by omega)];exact rd_load1 ho hr.rel h2 hh hq ht
  ·rw[map_vw (d:=6) (by omega)];exact rd_loadA ho hr.rel h2 hh hq ht hz
def resF(tmps:Array Value):ResultVar→Sem Value
 |.tmp t=>pure (tmps.getD t undef)
 |.cell a t=>do loadVar t (←asAddr (tmps.getD a undef))
theorem load_run{t:TypeId}{x:Tmp}{a:Act}{w:World}{u:AV}(h:∃v,((do pure (Next.value (←Instr.loadAt t (a.tmps.getD x undef)))):Sem Next).run P w=.ok (.value v) w∧RV ι u v):∃v,(resF a.tmps (.cell x t)).run P w=.ok v w∧RV ι u v:=by
 obtain⟨v,h1,h2⟩:=h;refine⟨v,?_,h2⟩;unfold resF;simp only[Sem.run_bind,Instr.loadAt]at h1 ⊢;cases hv:a.tmps.getD x undef with
 |pointer p=>
  rw[hv]at h1;cases p with
  |none=>simp[Instr.sureAddr,Result.andThen,go_sem]at h1
  |some p=>
   simp only[Instr.sureAddr,asAddr,Sem.run_pure,Result.andThen]at h1 ⊢;cases hl:(loadVar t p).run P w with
   |ok v' w'=>
    rw[hl]at h1;simp only[Result.ok.injEq,Next.value.injEq]at h1;obtain⟨rfl,rfl⟩:=h1;rfl
   |_=>rw[hl]at h1;simp at h1
 |_=>rw[hv]at h1;simp[Instr.sureAddr,Result.andThen,go_sem]at h1
noncomputable def cellK(ag:Bool)(m:Nat)(h:Tr Blk 7)(K:AV→Res)(v:AV):Res:=AV.rec (motive:=fun _=>Res) .fail .fail (fun _ _ _ _=>.fail) (fun _=>.fail) (fun _ _=>.fail) (fun _ _ _ _=>.fail) (fun _ _=>.fail) (fun _ _ _ _ _ _=>.fail) (fun b o=>Blk.rec (motive:=fun _=>Res) .fail (fun _ _ _ _ _ _=>.fail) (fun _=>.fail) (fun _qq cs n=>Bool.rec (motive:=fun _=>Res) (.fail) (ldN 2 cs m o fun l=>iB ag (K (.k 0 0 l)) (asK l fun x _=>K x)) (Nat.ble (Nat.add o m) n)) (fun _qq cs n=>Bool.rec (motive:=fun _=>Res) (.fail) (ldN 6 cs m o fun l=>iB ag (K (.k 0 0 l)) (asK l fun x _=>K x)) (Nat.ble (Nat.add o m) n)) (fun _=>.fail) ((gw Blk 7 b).f h)) (fun _=>.fail) (fun _ _=>.fail) v
theorem cellK_ok{ag:Bool}{m:Nat}{h:Tr Blk 7}{nx:Nat}{K:AV→Res}{v:AV}{R:Res}(hh:cellK ag m h K v=R)(hR:R≠.fail):∃b o f n u,v=.ptr b o∧Row ⟨h,nx⟩ b f n∧o+m≤n∧K u=R∧((ag=true∧u=.k 0 0 (mkL ((List.range' o m).map f)))∨(ag=false∧u=f o∧0<m)):=by
 have fin:∀{f:Nat→AV} {o:Nat},iB ag (K (.k 0 0 (mkL ((List.range' o m).map f)))) (asK (mkL ((List.range' o m).map f)) fun x _=>K x)=R→∃u,K u=R∧((ag=true∧u=.k 0 0 (mkL ((List.range' o m).map f)))∨(ag=false∧u=f o∧0<m)):=fun {f o} h=>by
  cases ag with
  |true=>exact⟨_,h,.inl ⟨rfl,rfl⟩⟩
  |false=>
   obtain⟨x,t,h1,h2⟩:=asK_ok (show asK (mkL ((List.range' o m).map f)) (fun x _=>K x)=R from h) hR;cases m with
   |zero=>cases h1
   |succ m=>
    simp only[List.range'_succ,List.map_cons,mkL,AV.cons.injEq]at h1;obtain⟨rfl,-⟩:=h1;exact⟨_,h2,.inr ⟨rfl,rfl,by omega⟩⟩
 cases v with
 |ptr b o=>
  rcases row_ok hR hh with⟨τ,cs,n,h1,hB⟩|⟨τ,cs,n,h1,hB⟩
  ·obtain⟨c1,h2⟩:=tst hR h1;rw[ldN_to]at h2;obtain⟨u,g1,g2⟩:=fin (f:=fun i=>get 2 i cs) (o:=o) h2;exact⟨b,o,_,n,u,rfl,.inl ⟨τ,cs,hB,rfl⟩,Nat.le_of_ble_eq_true c1,g1,g2⟩
  ·obtain⟨c1,h2⟩:=tst hR h1;rw[ldN_to]at h2;obtain⟨u,g1,g2⟩:=fin (f:=fun i=>get 6 i cs) (o:=o) h2;exact⟨b,o,_,n,u,rfl,.inr ⟨τ,cs,hB,rfl⟩,Nat.le_of_ble_eq_true c1,g1,g2⟩
 |_=>exact absurd hh.symm hR
theorem cell_run{ti:TT}(T:TyOk P ti){t:TypeId}(ht:gT t=true){x:Tmp}{θ:Te}{h:Tr Blk 7}{nx b o n:Nat}{f:Nat→AV}{u:AV}(hx:θ x=.ptr b o)(hrow:Row ⟨h,nx⟩ b f n)(hn:o+(tI ti t).size≤n)(hu:(aggT ti t=true∧u=.k 0 0 (mkL ((List.range' o (tI ti t).size).map f)))∨(aggT ti t=false∧u=f o∧0<(tI ti t).size)){a:Act}{w:World}(hr:HR ι ⟨h,nx⟩ w)(htr:∀t,RV ι (θ t) (a.tmps.getD t undef)):∃v,(resF a.tmps (.cell x t)).run P w=.ok v w∧RV ι u v:=by
 let op:Oper:={(default:Oper) with op:=.load t (.tmp x)}
 have hls:LStep P θ ⟨h,nx⟩ op u:=by
  refine⟨t,.tmp x,b,o,f,n,rfl,hx,fun _=>hrow,?_⟩;rcases hu with⟨e1,e2⟩|⟨e1,e2,e3⟩
  ·exact .inr ⟨(tI ti t).size,fun w=>by rw[T.isAgg ht w,e1],fun w=>T.sizeOf ht w,hn,e2⟩
  ·exact .inl ⟨fun w=>by rw[T.isAgg ht w,e1],by omega,e2⟩
 have hO:Ops ι θ op a:=fun y hy=>by
  have:y=.tmp x:=by simpa[op,Op.operands]using hy
  subst this;exact htr x
 exact load_run (hls.rd hr hO)
def rsOk(l:List ResultVar):Bool:=l.all fun r=>match r with|.tmp _=>true|.cell _ t=>gT t
theorem resN_ok{ti:TT}(T:TyOk P ti){vs:List Nat}{nx:Nat}:∀(l:List ResultVar) (rs:List Rv) {tm:TM} {h:Tr Blk 7} {C:AV→Res} {R:Res},rvs ti vs l=some rs→rsOk l=true→resN rs tm h C=R→R≠.fail→∃av,C av=R∧lenL' av=some l.length∧∀(ι:Io) (a:Act) (w:World) (θ:Te),HR ι ⟨h,nx⟩ w→(∀t n,pos t vs 0=some n→tget n tm=θ t)→(∀t,RV ι (θ t) (a.tmps.getD t undef))→∃us,(l.mapM (resF a.tmps)).run P w=.ok us w∧RL ι av us
 |[],rs,tm,h,C,R,hv,_,hh,hR=>by
  cases hv;exact⟨.nil,hh,rfl,fun ι a w θ _ _ _=>⟨[],by simp,rfl⟩⟩
 |.tmp t::l,rs,tm,h,C,R,hv,hok,hh,hR=>by
  unfold rvs at hv;split at hv
  ·rename_i rl n hl hn
   cases hv;obtain⟨av,h1,h2,h3⟩:=resN_ok T l rl hl hok (C:=fun l=>C (.cons ((tw n).g tm) l)) hh hR;refine⟨_,h1,by simp[lenL',h2],fun ι a w θ hr ht htr=>?_⟩;obtain⟨us,g1,g2⟩:=h3 ι a w θ hr ht htr;refine⟨a.tmps.getD t undef::us,?_,_,us,rfl,?_,g2⟩
   ·rw[List.mapM_cons];simp only[Sem.run_bind,resF,Sem.run_pure,Result.andThen,g1]
   ·show RV ι (tget n tm) _;rw[ht t n hn];exact htr t
  ·cases hv
 |.cell x t::l,rs,tm,h,C,R,hv,hok,hh,hR=>by
  unfold rvs at hv;obtain⟨hg,hok⟩:=and_ok (show and (gT t) (rsOk l)=true from hok);split at hv
  ·rename_i rl n hl hn
   cases hv;obtain⟨b,o,f,k,u,e1,e2,e3,e4,e5⟩:=cellK_ok (nx:=nx) (show cellK (aggT ti t) (tI ti t).size h (fun x=>resN rl tm h fun t=>C (.cons x t)) ((tw n).g tm)=R from hh) hR;obtain⟨av,h1,h2,h3⟩:=resN_ok T l rl hl hok (C:=fun t=>C (.cons u t)) e4 hR;refine⟨_,h1,by simp[lenL',h2],fun ι a w θ hr ht htr=>?_⟩;obtain⟨us,g1,g2⟩:=h3 ι a w θ hr ht htr;obtain⟨v,k1,k2⟩:=cell_run T hg (show θ x=.ptr b o by rw[←ht x n hn];exact e1) e2 e3 e5 hr htr;refine⟨v::us,?_,_,us,rfl,k2,g2⟩;rw[List.mapM_cons];simp only[Sem.run_bind,k1,Sem.run_pure,Result.andThen,g1]
  ·cases hv
end Go.Proofs.YtglihimiidiacaaGreatDoor.Ev8
namespace Go.Proofs.YtglihimiidiacaaGreatDoor.Ev8
open Go
variable {P:Program} {ι ι':Io} {F:Fence} {lo:Nat}
theorem results_run{fn:Func}{tmps:Array Value}{w:World}{us:List Value}(h:(fn.results.toList.mapM (resF tmps)).run P w=.ok us w):(results fn tmps).run P w=.ok (if h:us.toArray.size=1 then us.toArray[0] else .tuple us.toArray) w:=by
 have e:results fn tmps=((fn.results.mapM (resF tmps))>>=fun vs=>pure (if h:vs.size=1 then vs[0] else .tuple vs)):=by
  unfold results;congr 1
 rw[e,Array.mapM_eq_mapM_toList];simp only[Sem.run_bind,map_eq_pure_bind,h,Result.andThen,Sem.run_pure]
theorem mkR_eq(one:Bool)(rs:List Rv)(tm:TM)(H:HS):(mkR one rs).f tm H=resN rs tm H.h fun l=>resC one l fun v=>.fv v H:=by
 unfold mkR;split
 ·rfl
 ·rfl
 ·rfl
theorem mkR_ok{ti:TT}(T:TyOk P ti){fd:Fd}{fn:Func}{rs:List Rv}(hv:rvs ti fd.vs fn.results.toList=some rs)(hok:rsOk fn.results.toList=true){tm:TM}{H H':HS}{v:AV}(h:(mkR (Nat.beq fn.results.size 1) rs).f tm H=.fv v H'):H'=H∧∀(ι:Io) (a:Act) (w:World) (θ:Te),HR ι H w→(∀t n,pos t fd.vs 0=some n→tget n tm=θ t)→(∀t,RV ι (θ t) (a.tmps.getD t undef))→∃u,(results fn a.tmps).run P w=.ok u w∧RV ι v u:=by
 rw[mkR_eq]at h;obtain⟨h0,nx⟩:=H;obtain⟨av,h1,h2,h3⟩:=resN_ok T (nx:=nx) _ _ hv hok h (by simp);have hlen:fn.results.toList.length=fn.results.size:=by simp
 rw[hlen]at h2;cases ho:Nat.beq fn.results.size 1 with
 |true=>
  rw[ho]at h1;have hs1:fn.results.size=1:=Nat.eq_of_beq_eq_true ho;obtain⟨x,t,rfl,h1⟩:=asK_ok (show asK av (fun x _=>Res.fv x ⟨h0,nx⟩)=_ from h1) (by simp);have h1':Res.fv x ⟨h0,nx⟩=.fv v H':=h1;simp only[Res.fv.injEq]at h1';obtain⟨rfl,rfl⟩:=h1';refine⟨rfl,fun ι a w θ hr ht htr=>?_⟩;obtain⟨us,g1,g2⟩:=h3 ι a w θ hr ht htr;have hul:=(RL.len h2 g2).1;rw[hs1]at hul;obtain⟨u,ws,rfl,k1,k2⟩:=g2;have hw0:ws=[]:=by cases ws with|nil=>rfl|cons _ _=>simp at hul
  subst hw0;exact⟨u,by rw[results_run g1];simp,k1⟩
 |false=>
  rw[ho]at h1;have hs1:fn.results.size≠1:=fun e=>by rw[e]at ho;cases ho
  have key:∀us:List Value,us.length=fn.results.size→(if h:us.toArray.size=1 then us.toArray[0] else Value.tuple us.toArray)=.tuple us.toArray:=fun us hu=>by
   rw[dif_neg];simp;omega
  cases av with
  |nil=>
   have h1':Res.fv (.v (.tuple #[])) ⟨h0,nx⟩=.fv v H':=h1;simp only[Res.fv.injEq]at h1';obtain⟨rfl,rfl⟩:=h1';refine⟨rfl,fun ι a w θ hr ht htr=>?_⟩;obtain⟨us,g1,g2⟩:=h3 ι a w θ hr ht htr;have hul:=(RL.len h2 g2).1;have:us=[]:=g2;subst this;exact⟨_,by rw[results_run g1,key _ hul],rfl⟩
  |cons x l=>
   have h1':Res.fv (.k 1 0 (.cons x l)) ⟨h0,nx⟩=.fv v H':=h1;simp only[Res.fv.injEq]at h1';obtain⟨rfl,rfl⟩:=h1';refine⟨rfl,fun ι a w θ hr ht htr=>?_⟩;obtain⟨us,g1,g2⟩:=h3 ι a w θ hr ht htr;have hul:=(RL.len h2 g2).1;exact⟨_,by rw[results_run g1,key _ hul],us,g2,rfl⟩
  |_=>cases h1
theorem leave_ok{fn:Func}{tmps:Array Value}{R:Ending→World→Prop}{H:HS}:∀(rs:List Nat) (w:World),rs.Nodup→(∀r∈rs,w.heap[r]?=some (.deferred (some []))∧¬Own ι (hp H.h) r)→HR ι H w→(∀w',HR ι H w'→w'.heap.size=w.heap.size→(∀B,B∉rs→w'.heap[B]?=w.heap[B]?)→Env w w'→∃v,(results fn tmps).run P w'=.ok v w'∧R (.returned v) w')→LeavesInM F 0 P fn tmps R (rs.map mrk) .returning w
 |[],w,_,_,hr,h=>h w hr rfl (fun _ _=>rfl) ⟨rfl,rfl,rfl⟩
 |r::rs,w,hn,hd,hr,h=>by
  obtain⟨n1,n2⟩:=List.nodup_cons.1 hn;obtain⟨d1,d2⟩:=hd r (List.mem_cons_self ..);have ho:∀B',B'≠r→(w.putObj r (.deferred none)).heap[B']?=w.heap[B']?:=fun B' hB=>World.putObj_heap_other hB;refine⟨by simp,.inl ⟨r,w.putObj r (.deferred none),rfl,run_takeDeferred d1,leave_ok rs _ n2 (fun r' hr'=>?_) ⟨hr.rel.other d2 (by simp) ho,hr.ok,hr.nx,hr.gl,hr.sn.other ho fun arr t fr e=>by rw[d1]at e;cases e⟩ fun w' k1 k2 k3 k4=>?_⟩⟩
  ·obtain⟨e1,e2⟩:=hd r' (List.mem_cons_of_mem _ hr');exact⟨(ho r' fun q=>n1 (q▸hr')).trans e1,e2⟩
  ·refine h w' k1 (by simpa using k2) (fun B hB=>?_) k4;rw[k3 B fun q=>hB (List.mem_cons_of_mem _ q),ho B fun q=>hB (by rw[q];exact List.mem_cons_self ..)]
theorem dOk_mono{N N':Nat}(h:N≤N'){d:Option Tmp}(hd:dOk N d=true):dOk N' d=true:=by
 cases d with
 |none=>rfl
 |some t=>exact Nat.ble_eq_true_of_le (Nat.lt_of_lt_of_le (blt_lt hd) h)
theorem all_mono{N N':Nat}(h:N≤N'){ps:List Tmp}(hp:(ps.all fun p=>Nat.blt p N)=true):(ps.all fun p=>Nat.blt p N')=true:=
 List.all_eq_true.2 fun p hm=>Nat.ble_eq_true_of_le (Nat.lt_of_lt_of_le (blt_lt (List.all_eq_true.1 hp p hm)) h)
theorem and_mk{a b:Bool}(ha:a=true)(hb:b=true):and a b=true:=by rw[ha,hb];rfl
theorem okC_mono{N N':Nat}(h:N≤N'){fd:Fd}:∀{c:Code},okC N fd c=true→okC N' fd c=true
 |.region id ops d,hc=>by
  obtain⟨h1,h2⟩:=and_ok hc;refine and_mk (List.all_eq_true.2 fun o ho=>?_) h2;obtain⟨a,b⟩:=and_ok (List.all_eq_true.1 h1 o ho);exact and_mk (dOk_mono h a) b
 |.seq a b,hc=>and_mk (okC_mono h (and_ok hc).1) (okC_mono h (and_ok hc).2)
 |.cond c a b,hc=>and_mk (and_ok hc).1 (and_mk (okC_mono h (and_ok (and_ok hc).2).1) (okC_mono h (and_ok (and_ok hc).2).2))
 |.block _ a,hc=>okC_mono (c:=a) h hc
 |.loop a,hc=>okC_mono (c:=a) h hc
 |.scope a,hc=>okC_mono (c:=a) h hc
 |.rangeFunc g ps a b,hc=>by
  obtain⟨h1,h2⟩:=and_ok hc;obtain⟨h1,h3⟩:=and_ok h1;obtain⟨h2,h4⟩:=and_ok h2;obtain⟨h5,h6⟩:=and_ok h2;exact and_mk (and_mk h1 (all_mono h h3)) (and_mk (and_mk (okC_mono h h5) (okC_mono h h6)) h4)
 |.skip,_=>rfl
 |.label _,_=>rfl
 |.exit _,_=>rfl
 |.goto _,_=>rfl
 |.ret,_=>rfl
 |.refuse _,_=>rfl
theorem pos_get:∀{vs:List Nat} {t k n:Nat},pos t vs k=some n→vs[n-k]?=some t
 |[],t,k,n,h=>by cases h
 |u::l,t,k,n,h=>by
  have hge:=(pos_ge h).1;simp only[pos]at h;cases hb:Nat.beq u t with
  |true=>rw[hb]at h;simp only[cond_true,Option.some.injEq]at h;subst h;simp[Nat.eq_of_beq_eq_true hb]
  |false=>
   rw[hb]at h;simp only[cond_false]at h;have h1:=(pos_ge h).1;have:=pos_get h;obtain⟨m,rfl⟩:∃m,n=k+1+m:=⟨n-(k+1),by simp only[Nat.succ_eq_add_one]at h1;omega⟩;rw[show k+1+m-Nat.succ k=m by simp only[Nat.succ_eq_add_one];omega]at this;rw[show k+1+m-k=m+1 by omega];simpa using this
def HkOk(P:Program)(f:FuncId)(g:Hk):Prop:=∀ih,CallOk P ih→∀k t H v H',g.f ih k t H=.fv v H'→∀(ι:Io) (w:World) (args:Array Value),HR ι H w→TA ι t args→args.size=k→(callFunc f args).run P w=.ok (.enter f args) w∧CallsIn Fence.wide 0 P f args w (RetP ι H w v H')
structure VOk (V:Vw):Prop where
 hm:V.P.follows .mixedOrders=true
 ty:TyOk V.P V.ti
 fn:∀f fn,f<1024→get 5 f V.fn=some fn→V.P.funcs[f]?=some fn∧(fn.name== "runtime.NumGoroutine")=false∧rsOk fn.results.toList=true∧∀c,fn.body=some c→(get 5 f V.vs).vs.length≤72∧okC fn.ntmps (get 5 f V.vs) c=true
 ext:∀f fn,V.P.funcs[f]?=some fn→fn.body=none→(fn.name== "runtime.NumGoroutine")=false→∀v l b a1,extV (extN fn.name) (.s l b) a1=some v→v≠.un→∀(ι:Io) (u0 u1:Value) (w:World),RV ι (.s l b) u0→RV ι a1 u1→∃u,(callFunc f #[u0,u1]).run V.P w=.ok (.value u) w∧RV ι v u
 hks:∀f g,fnd f V.hk=some g→HkOk V.P f g
theorem extV_s{n:Nat}{x y v:AV}(h:extV n x y=some v):∃l b,x=.s l b:=by
 unfold extV at h;split at h
 ·exact⟨_,_,rfl⟩
 ·exact⟨_,_,rfl⟩
 ·cases h
theorem extV_un{n:Nat}{x v:AV}(h:extV n x .un=some v):False:=by
 unfold extV at h;split at h<;>simp_all
theorem prm_at{n:Nat}{vs:List Nat}(h:prmOk n vs=true){i:Nat}(hi:i<n):vs[i]?=some i:=by
 have:=List.all_eq_true.1 h i (List.mem_range.2 hi);rw[nth_eq]at this;split at this
 ·rename_i j hj;rw[hj,Nat.eq_of_beq_eq_true this]
 ·cases this
theorem body_ok{V:Vw}(hV:VOk V){ih:Ih}(hC:CallOk V.P ih)(hY:RndOk V.P ih){f:FuncId}{fn:Func}{c:Code}{fd:Fd}(hf:V.P.funcs[f]?=some fn)(hb:fn.body=some c)(hvs:fd.vs.length≤72)(hokc:okC fn.ntmps fd c=true)(hrs:rsOk fn.results.toList=true){rs:List Rv}(hrv:rvs V.ti fd.vs fn.results.toList=some rs)(hprm:prmOk (Nat.add fn.params.size fn.nfree) fd.vs=true){t:TM}{H:HS}{v:AV}{H':HS}(h:endF ((comp V.P V.ti fd 300 c).f ih t H) (mkR (Nat.beq fn.results.size 1) rs)=.fv v H'){w:World}{args:Array Value}(hr:HR ι H w)(hta:TA ι t args)(hsz:args.size≤Nat.add fn.params.size fn.nfree):CallsIn Fence.wide 0 V.P f args w (RetP ι H w v H'):=by
 have hF:WF Fence.wide:=.inl rfl;refine callsIn_of_wp_marks hf hb trivial ?_;generalize ha0:({tmps:=args++Array.replicate (fn.ntmps-args.size) undef,defers:=[]}:Act)=a0;have hN:fn.ntmps≤a0.tmps.size:=by rw[←ha0];simp;omega
 have hget:∀i,a0.tmps.getD i undef=args.getD i undef:=fun i=>by
  rw[←ha0];simp only[Array.getD_eq_getD_getElem?];by_cases hi:i<args.size
  ·rw[Array.getElem?_append_left hi]
  ·rw[Array.getElem?_append_right (by omega),Array.getElem?_replicate,Array.getElem?_eq_none (by omega)];split<;>rfl
 have hcst:Cst a0.tmps.size fd.vs ι t H a0 w:=by
  refine⟨tv fd.vs t,fun τ n hn=>by unfold tv;rw[hn],hr,fun τ=>?_,hr.gl,rfl⟩;unfold tv;cases hn:pos τ fd.vs 0 with
  |none=>exact⟨_,rfl⟩
  |some n=>
   have hn72:n<72:=by have:=(pos_ge hn).2;omega
   obtain⟨t1,t2⟩:=hta n hn72;simp only;cases hag:args[n]? with
   |none=>rw[t2 hag];exact⟨_,rfl⟩
   |some u=>
    have hlt:n<args.size:=(Array.getElem?_eq_some_iff.1 hag).1;have h1:=prm_at hprm (show n<Nat.add fn.params.size fn.nfree by omega);have h2:=pos_get hn;rw[Nat.sub_zero,h1]at h2;cases h2;rw[hget,Array.getD_eq_getD_getElem?,hag];exact t1 u hag
 have hd0:Dfs w.heap.size ι (hp H.h) w a0.defers:=by rw[←ha0];exact⟨Nat.le_refl _,[],rfl,List.nodup_nil,fun r h=>by cases h⟩
 have hcode:=comp_ok hF hV.hm hC hY hV.ty hvs (fun hro=>rf_ok hF hC hvs hro) 300 c (okC_mono hN hokc) (.inl rfl);have fin:∀(tm1:TM) (H1:HS) (a1:Act) (w1:World),(mkR (Nat.beq fn.results.size 1) rs).f tm1 H1=.fv v H'→CEnd w.heap.size a0.tmps.size fd.vs ι H w tm1 H1 a1 w1→LeavesInM Fence.wide 0 V.P fn a1.tmps (RetP ι H w v H') a1.defers .returning w1:=by
  intro tm1 H1 a1 w1 hres hend;obtain⟨ι1,⟨θ1,c1,c2⟩,g,-,rs',d1,d2,d3⟩:=hend;obtain⟨rfl,hm⟩:=mkR_ok hV.ty hrv hrs hres;rw[d1];refine leave_ok rs' w1 d2 (fun r hr'=>⟨(d3 r hr').1,(d3 r hr').2.1⟩) c2.hr fun w' k1 k2 k3 k4=>?_;have k5:∀B,B<w.heap.size→w'.heap[B]?=w1.heap[B]?:=fun B hB=>k3 B fun hm=>by have:=(d3 B hm).2.2;omega
  obtain⟨u,e1,e2⟩:=hm ι1 a1 w' θ1 k1 c1 c2.tr;refine⟨u,e1,u,ι1,rfl,e2,k1,g.le,k1.rel,by have:=g.size;omega,fun B hB hn=>(k5 B hB).trans (g.keep B hB hn),g.own,⟨k4.1.trans g.env.1,k4.2.1.trans g.env.2.1,k4.2.2.trans g.env.2.2⟩,fun B hB hO arr t fr ha=>?_⟩;obtain⟨a',x1,y1⟩:=g.shp B hB hO arr t fr ha;exact⟨a',(k5 B hB).trans x1,y1⟩
 cases hR:(comp V.P V.ti fd 300 c).f ih t H with
 |fail=>rw[hR]at h;cases h
 |fv v H=>rw[hR]at h;cases h
 |nrm tm1 H1=>
  rw[hR]at h;refine wpIn_mono (hcode w.heap.size t H _ ι a0 w hR (by simp) hcst hd0) fun e a1 w1 hq=>?_;obtain⟨rfl,hq⟩:=hq;exact fin tm1 H1 a1 w1 h hq
 |out x tm1 H1=>
  rw[hR]at h;cases x with
  |ex i=>cases h
  |gt l=>cases h
  |rt=>
   refine wpIn_mono (hcode w.heap.size t H _ ι a0 w hR (by simp) hcst hd0) fun e a1 w1 hq=>?_;obtain⟨rfl,hq⟩:=hq;exact fin tm1 H1 a1 w1 h hq
theorem mkF_cases(V:Vw)(f:FuncId):(∃g n c r,mkF V f=.hk g n c r∧mkG V f=.go n c r∧fnd f V.hk=some g)∨mkF V f=mkG V f:=by
 unfold mkF;split
 ·rename_i n c r g h1 h2
  exact .inl ⟨g,n,c,r,rfl,h1,h2⟩
 ·exact .inr rfl
theorem mkG_hk{V:Vw}{f:FuncId}{g:Hk}{n:Nat}{c:WC}{r:RW}(hk:mkG V f=.hk g n c r):False:=by
 unfold mkG at hk;split at hk
 ·unfold mkB at hk;split at hk
  ·cases hk
  ·split at hk<;>cases hk
 ·cases hk
theorem own_ok{V:Vw}(hV:VOk V){n:Nat}(hC:CallOk V.P (evF V n))(hY:RndOk V.P (evF V n)){f:FuncId}{np:Nat}{c:WC}{r:RW}(hk:mkG V f=.go np c r){k:Nat}{t:TM}{H:HS}{v:AV}{H':HS}(h:iB (Nat.ble k np) (endF (c.f (evF V n) t H) r) .fail=.fv v H'){w:World}{args:Array Value}(hr:HR ι H w)(hta:TA ι t args)(hsz:args.size=k):
 (callFunc f args).run V.P w=.ok (.enter f args) w∧CallsIn Fence.wide 0 V.P f args w (RetP ι H w v H'):=by
 have hR:(Res.fv v H')≠.fail:=by simp
 obtain⟨c1,hE⟩:=iB_ok hR h;unfold mkG at hk;split at hk
 ·rename_i fn hlt hfn
  unfold mkB at hk;split at hk
  ·cases hk
  ·rename_i cd hbody
   split at hk
   ·rename_i rs hrv hprm
    cases hk;obtain⟨q1,q2,q3,q4⟩:=hV.fn f fn (blt_lt hlt) hfn;obtain⟨q5,q6⟩:=q4 cd hbody;have hle:k≤Nat.add fn.params.size fn.nfree:=Nat.le_of_ble_eq_true c1;refine⟨?_,body_ok hV hC hY q1 hbody q5 q6 q3 hrv hprm hE hr hta (by omega)⟩;have hq2:fn.name≠ "runtime.NumGoroutine":=fun e=>by simp[e]at q2
    simp[callFunc,Sem.run_bind,show(program:Sem Program).run V.P w=.ok V.P w from rfl,Result.andThen,q1,hq2,hbody]
   ·cases hk
 ·cases hk
theorem evF_ok{V:Vw}(hV:VOk V):∀n,CallOk V.P (evF V n)∧RndOk V.P (evF V n)
 |0=>⟨fun f n t H v H' h=>(by cases h),fun b a H v H' h=>(by cases h)⟩
 |n+1=>by
  obtain⟨hC,hY⟩:=evF_ok hV n;refine⟨fun f k t H v H' h ι w args hr hta hsz=>?_,rnd_ok hV.hm hC hY hV.ty⟩;have hR:(Res.fv v H')≠.fail:=by simp
  change FK.rec (motive:=fun _=>Res) .fail (fun x=>iB (Nat.beq k 2) (oR (extV x t.a0 t.a1) fun v=>fV v fun v=>.fv v H) .fail) (fun np c r=>iB (Nat.ble k np) (endF (c.f (evF V n) t H) r) .fail) (fun g np c r=>orF (g.f (evF V n) k t H) fun _=>iB (Nat.ble k np) (endF (c.f (evF V n) t H) r) .fail) (mkF V f)=_ at h;rcases mkF_cases V f with⟨g,np,c,r,hk,hG,hg⟩|hF
  ·rw[hk]at h;change orF (g.f (evF V n) k t H) (fun _=>iB (Nat.ble k np) (endF (c.f (evF V n) t H) r) .fail)=_ at h;cases hq:g.f (evF V n) k t H with
   |fail=>rw[hq]at h;exact .inl (own_ok hV hC hY hG h hr hta hsz)
   |out x tm H1=>rw[hq]at h;cases h
   |nrm tm H1=>rw[hq]at h;cases h
   |fv v1 H1=>
    rw[hq]at h;cases h;exact .inl (hV.hks f g hg _ hC k t H v H' hq ι w args hr hta hsz)
  rw[hF]at h;cases hk:mkG V f with
  |bad=>rw[hk]at h;cases h
  |hk g np c r=>exact(mkG_hk hk).elim
  |go np c r=>rw[hk]at h;exact .inl (own_ok hV hC hY hk h hr hta hsz)
  |ext x=>
   rw[hk]at h;obtain⟨c1,h⟩:=iB_ok hR h;obtain⟨v',hx,h⟩:=oR_ok h hR;obtain⟨h,hun⟩:=fV_ok h hR;cases h;unfold mkG at hk;split at hk
   ·rename_i fn hlt hfn
    unfold mkB at hk;split at hk
    ·rename_i hbody
     cases hk;obtain⟨q1,q2,q3,q4⟩:=hV.fn f fn (blt_lt hlt) hfn;obtain⟨l,b,hs⟩:=extV_s hx;have h0:=hta 0 (by omega);have h1:=hta 1 (by omega);have e0:tget 0 t=.s l b:=hs;have ek:k=2:=Nat.eq_of_beq_eq_true c1;have es:args.size=2:=by omega
     obtain⟨u0,hu0⟩:∃u,args[0]?=some u:=⟨_,Array.getElem?_eq_getElem (by omega)⟩;obtain⟨u1,hu1⟩:∃u,args[1]?=some u:=⟨_,Array.getElem?_eq_getElem (by omega)⟩;have hargs:args=#[u0,u1]:=by
      apply Array.ext
      ·simp[es]
      ·intro i h1 h2;have:i=0∨i=1:=by omega
       rcases this with rfl|rfl
       ·simp only[Array.getElem?_eq_getElem h1,Option.some.injEq]at hu0;simpa using hu0
       ·simp only[Array.getElem?_eq_getElem h1,Option.some.injEq]at hu1;simpa using hu1
     rw[hs]at hx;obtain⟨u,g1,g2⟩:=hV.ext f fn q1 hbody q2 v l b t.a1 hx hun ι u0 u1 w (by rw[←e0];exact h0.1 u0 hu0) (h1.1 u1 hu1);exact .inr ⟨u,by rw[hargs];exact g1,g2,rfl,l,b,e0⟩
    ·split at hk<;>cases hk
   ·cases hk
end Go.Proofs.YtglihimiidiacaaGreatDoor.Ev8
namespace Go.Proofs.YtglihimiidiacaaGreatDoor.Ev8
open Go
variable {P:Program} {ι ι':Io}
theorem cmp_less:∀x y:List UInt8,Lib.compareBytes x y=if x=y then 0 else if Op.bytesLess x y=true then -1 else 1
 |[],[]=>by simp[Lib.compareBytes]
 |[],_::_=>by simp[Lib.compareBytes,Op.bytesLess]
 |_::_,[]=>by simp[Lib.compareBytes,Op.bytesLess]
 |a::x,b::y=>by
  have ih:=cmp_less x y;unfold Lib.compareBytes Op.bytesLess;by_cases h1:a<b
  ·have:a≠b:=fun e=>by subst e;exact UInt8.lt_irrefl _ h1
   simp[h1,this]
  ·by_cases h2:b<a
   ·have:a≠b:=fun e=>by subst e;exact UInt8.lt_irrefl _ h2
    simp[h1,h2,this]
   ·have:a=b:=by
     have e1:=UInt8.not_lt.1 h1;have e2:=UInt8.not_lt.1 h2;exact UInt8.le_antisymm e2 e1
    subst this;simp[h1,ih]
theorem idx_ok(c:Nat)(hc:c<256):∀(l n i:Nat),idxB c l n i=(if Lib.indexByte (bl l n) (UInt8.ofNat c)=-1 then (-1:Int) else (i:Int)+Lib.indexByte (bl l n) (UInt8.ofNat c))∧Lib.indexByte (bl l n) (UInt8.ofNat c)≤l
 |0,n,i=>by simp[idxB,bl,Lib.indexByte]
 |l+1,n,i=>by
  obtain⟨h1,h2⟩:=idx_ok c hc l (n / 256) (i+1);have hge:=Lib.indexByte_ge (bl l (n / 256)) (UInt8.ofNat c);rw[bl_succ];have hm:n % 256<256:=Nat.mod_lt _ (by omega);unfold idxB Lib.indexByte;by_cases e:n % 256=c
  ·have e1:Nat.beq (Nat.mod n 256) c=true:=by rw[Nat.beq_eq];exact e
   have e2:(UInt8.ofNat (n % 256)==UInt8.ofNat c)=true:=by rw[e];simp
   rw[e1,e2];simp;omega
  ·have e1:Nat.beq (Nat.mod n 256) c=false:=by
    cases hb:Nat.beq (Nat.mod n 256) c with
    |false=>rfl
    |true=>rw[Nat.beq_eq]at hb;exact absurd hb e
   have e2:(UInt8.ofNat (n % 256)==UInt8.ofNat c)=false:=by
    rw[beq_eq_false_iff_ne];exact fun h=>e ((u8_eq hm hc).1 h)
   rw[e1,e2];simp only[cond_false,Bool.false_eq_true,if_false];rw[show Nat.div n 256=n / 256 from rfl,show Nat.succ i=i+1 from rfl,h1];by_cases e3:Lib.indexByte (bl l (n / 256)) (UInt8.ofNat c)=-1
   ·simp[e3];omega
   ·have e4:(Lib.indexByte (bl l (n / 256)) (UInt8.ofNat c)==-1)=false:=by rw[beq_eq_false_iff_ne];exact e3
    rw[e4];simp only[Bool.false_eq_true,if_false,e3];have:¬(Lib.indexByte (bl l (n / 256)) (UInt8.ofNat c)+1=-1):=by omega
    rw[if_neg this];constructor
    ·push_cast;omega
    ·push_cast;omega
theorem ext_ok{f:FuncId}{fn:Func}(hf:P.funcs[f]?=some fn)(hb:fn.body=none)(hn:(fn.name== "runtime.NumGoroutine")=false)(h1:extN fn.name=1→Extern.findNext fn=none∧Extern.find fn=some Extern.BytealgCompare.compare)(h2:extN fn.name=2→Extern.findNext fn=none∧Extern.find fn=some Extern.BytealgIndexByte.indexByte){v a1:AV}{l b:Nat}(h:extV (extN fn.name) (.s l b) a1=some v){u0 u1:Value}{w:World}(r0:RV ι (.s l b) u0)(r1:RV ι a1 u1):∃u,(callFunc f #[u0,u1]).run P w=.ok (.value u) w∧RV ι v u:=by
 have hbn:fn.body.isNone=true:=by rw[hb];rfl
 unfold extV at h;split at h
 ·rename_i la a lb b' hx hs
  cases hs;obtain⟨g1,g2⟩:=h1 hx;cases hnn:and (normS l b) (normS lb b') with
  |false=>rw[hnn]at h;cases h
  |true=>
   rw[hnn]at h;simp only[cond_true,Option.some.injEq]at h;obtain⟨n1,n2⟩:=and_ok hnn;rw[r0.str,r1.str];refine⟨_,by rw[run_callFunc_extern hf hn hbn g1 g2,Lib.run_compareString];rfl,?_⟩;rw[cmp_less,bsOf_list,bsOf_list];change RV ι v (.int .i64 (if bl l b=bl lb b' then 0 else if Op.bytesLess (bl l b) (bl lb b')=true then -1 else 1));rw[←less_eq (l+1) l b lb b' (by omega)];have hinj:bl l b=bl lb b'↔l=lb∧b=b':=by
    constructor
    ·intro e;apply bsOf_inj (normS_lt n1) (normS_lt n2);have e1:(bsOf l b).data=(bsOf lb b').data:=by
      apply Array.toList_inj.1;rw[bsOf_list,bsOf_list];exact e
     cases hA:bsOf l b;cases hB:bsOf lb b';rw[hA,hB]at e1;simp at e1;rw[e1]
    ·rintro⟨rfl,rfl⟩;rfl
   rw[←h];by_cases e:l=lb∧b=b'
   ·have e1:(Nat.beq l lb && Nat.beq b b')=true:=by rw[e.1,e.2];simp
    rw[e1,if_pos (hinj.2 e)];exact⟨rfl,(by decide:IntKind.i64.wrap 0=0)⟩
   ·have e1:(Nat.beq l lb && Nat.beq b b')=false:=by
     cases hq:(Nat.beq l lb && Nat.beq b b') with
     |false=>rfl
     |true=>obtain⟨q1,q2⟩:=and_ok hq;exact absurd ⟨Nat.eq_of_beq_eq_true q1,Nat.eq_of_beq_eq_true q2⟩ e
    rw[e1,if_neg fun q=>e (hinj.1 q)];cases lessS (l+1) l b lb b' with
    |true=>exact⟨rfl,by decide⟩
    |false=>exact⟨rfl,by decide⟩
 ·rename_i la a c hx hs
  cases hs;obtain⟨g1,g2⟩:=h2 hx;cases hbl:Nat.blt l 9223372036854775808 with
  |false=>rw[hbl]at h;cases h
  |true=>
   rw[hbl]at h;simp only[cond_true,Option.some.injEq]at h;have hl:=blt_lt hbl;obtain⟨q1,q2⟩:=r1.int;have hc:c<256:=by
    have:=q2;simp[IntKind.wrap,IntKind.signed,IntKind.bits]at this;omega
   rw[r0.str,q1];refine⟨_,by rw[run_callFunc_extern hf hn hbn g1 g2,Lib.run_indexByteString];rfl,?_⟩;obtain⟨i1,i2⟩:=idx_ok c hc l b 0;have hge:=Lib.indexByte_ge (bl l b) (UInt8.ofNat c);have e0:idxB c l b 0=Lib.indexByte (bl l b) (UInt8.ofNat c):=by
    rw[i1];split
    ·rename_i e;exact e.symm
    ·simp
   rw[bsOf_list];change RV ι v (.int .i64 (Lib.indexByte (bl l b) (Int.ofNat c).toNat.toUInt8));have e5:(Int.ofNat c).toNat.toUInt8=UInt8.ofNat c:=rfl;rw[e5,←h,e0];refine⟨rfl,?_⟩;generalize Lib.indexByte (bl l b) (UInt8.ofNat c)=z at*;simp[IntKind.wrap,IntKind.signed,IntKind.bits];omega
 ·cases h
end Go.Proofs.YtglihimiidiacaaGreatDoor.Ev8
