import Derived.Deep.RegionHeld3
import Derived.StillTail
namespace Go.Proofs.YtlanckgcjijefaaGreatDoor
section
variable {P:Program} {ops:Array Oper} {Q:Exit->Act->World->Prop} {md:Region.Mode} {S:World->Prop}
def downB(md:Region.Mode)(ops:Array Oper):Bool:=(List.range ops.size).all λi=>match ops[i]? with|some o=>o.after.all λe=>!Region.binds md e||decide (e.on<i)|none=>false
theorem downB_spec(h:downB md ops=true){i:Nat}{o:Oper}(ho:ops[i]?=some o):∀e∈o.after,Region.binds md e=true->e.on<i:=by
 intro e he hb;have h1:=List.all_eq_true.1 h i (List.mem_range.2 (Array.getElem?_eq_some_iff.1 ho).1);rw[ho]at h1;simp only at h1;have h2:=Array.all_eq_true'.1 h1 e he;simpa[hb]using h2
theorem least_ready(hd:downB md ops=true){listed:Array Bool}(hs:listed.size=ops.size):∀i,i<ops.size->listed.getD i true=false->Region.ready md ops listed≠[]:=by
 intro i;induction i using Nat.strongRecOn with
 |_ i ih=>
  intro hi hun;have ho:ops[i]?=some ops[i]:=Array.getElem?_eq_getElem hi;by_cases hall:∀e∈ops[i].after,Region.binds md e=true->listed.getD e.on false=true
  ·have hm:i∈Region.ready md ops listed:=mem_ready.2 ⟨hun,_,ho,hall⟩;intro h0;rw[h0]at hm;cases hm
  ·have hne:∃e,e∈ops[i].after∧Region.binds md e=true∧listed.getD e.on false=false:=by
    apply Classical.byContradiction;intro hc;apply hall;intro e he hb;cases hx:listed.getD e.on false with
    |true=>rfl
    |false=>exact absurd ⟨e,he,hb,hx⟩ hc
   obtain⟨e,he,hb,hx⟩:=hne;have hlt:=downB_spec hd ho e he hb;exact ih e.on hlt (by omega) (getD_in (by omega) hx)
def tailQ(P:Program)(ops:Array Oper)(Q:Exit->Act->World->Prop)(n k:Nat):Exit->Act->World->Prop
 |.normal,a,w=>wpOps P ops Q (List.range' n k) a w
 |e,a,w=>Q e a w
theorem wpOp_tailQ{n k i:Nat}{K:Act->World->Prop}{a:Act}{w:World}(h:wpOp P ops (tailQ P ops Q n k) i K a w):wpOp P ops Q i K a w:=by
 unfold wpOp at*;split
 ·rename_i h0;simpa only[h0]using h
 ·rename_i o h0
  simp only[h0]at h;split
  ·rename_i hw
   simp only[hw,if_true]at h;rcases h with h|h
   ·refine .inl ?_;unfold Oper.wp at*;generalize (execOp a.eval o).run P w=r at*;cases r with
    |ok nx w'=>
     cases nx<;>simp only[Oper.upon]at h ⊢<;>first|exact h|exact Calls.mono h (λe w'' he=>by cases e<;>exact he)
    |halt x w'=>cases x<;>simp only[Oper.upon]at h ⊢<;>exact h
   ·exact .inr h
  ·rename_i hw
   simp only[hw]at h;exact h
def setTail:Array Bool->Nat->Nat->Array Bool
 |l,_,0=>l
 |l,n,k+1=>(setTail l (n+1) k).setIfInBounds n true
theorem setTail_size:∀(k n:Nat) (l:Array Bool),(setTail l n k).size=l.size
 |0,_,_=>rfl
 |k+1,n,l=>by rw[setTail,Array.size_setIfInBounds,setTail_size k]
theorem setTail_lt:∀(k n:Nat) (l:Array Bool) (i:Nat) (d:Bool),i<n->(setTail l n k).getD i d=l.getD i d
 |0,_,_,_,_,_=>rfl
 |k+1,n,l,i,d,h=>by rw[setTail,getD_set_ne d (by omega),setTail_lt k (n+1) l i d (by omega)]
theorem setTail_ge:∀(k n:Nat) (l:Array Bool) (i:Nat) (d:Bool),n<=i->i<n+k->i<l.size->(setTail l n k).getD i d=true
 |0,_,_,_,_,h1,h2,_=>by omega
 |k+1,n,l,i,d,h1,h2,h3=>by
  rw[setTail];by_cases h:n=i
  ·subst h;rw[Array.getD_eq_getD_getElem?,Array.getElem?_setIfInBounds_self_of_lt (by rw[setTail_size];exact h3)];rfl
  ·rw[getD_set_ne d h,setTail_ge k (n+1) l i d (by omega) (by omega) h3]
theorem setTail_true{k n:Nat}{l:Array Bool}{i:Nat}(h:l.getD i false=true):(setTail l n k).getD i false=true:=by
 induction k generalizing n with
 |zero=>exact h
 |succ k ih=>rw[setTail];exact getD_set_true ih
theorem setTail_comm:∀(k n:Nat) (l:Array Bool) (i:Nat),i<n->(setTail l n k).setIfInBounds i true=setTail (l.setIfInBounds i true) n k
 |0,_,_,_,_=>rfl
 |k+1,n,l,i,h=>by rw[setTail,setTail,Array.setIfInBounds_comm _ _ (by omega),setTail_comm k (n+1) l i (by omega)]
theorem ready_setTail{n k i:Nat}{listed:Array Bool}(hi:i<n)(h:i∈Region.ready md ops listed):i∈Region.ready md ops (setTail listed n k):=by
 obtain⟨h0,o,ho,hall⟩:=mem_ready.1 h;exact mem_ready.2 ⟨by rw[setTail_lt _ _ _ _ _ hi];exact h0,o,ho,λe he hb=>setTail_true (hall e he hb)⟩
theorem tail_run(hd:downB md ops=true):∀(k n:Nat) (listed:Array Bool) (a:Act) (w:World),n+k=ops.size->Region.chainB md ops n=true->listed.size=ops.size->(∀i,i<n->listed.getD i true=true)->(∀t,n<=t->t<ops.size->listed.getD t true=false)->
 wpOps P ops Q (List.range' n k) a w->∀fuel,k<=fuel->wpAny P md ops Q fuel listed a w:=by
 intro k;induction k with
 |zero=>
  intro n listed a w hn _ hs hall _ h fuel _;refine wpAny_done ?_ h fuel;cases hr:Region.ready md ops listed with
  |nil=>rfl
  |cons j l=>
   have hj:j∈Region.ready md ops listed:=by rw[hr];simp
   obtain⟨hun,o,ho,-⟩:=mem_ready.1 hj;rw[hall j (by have:=(Array.getElem?_eq_some_iff.1 ho).1;omega)]at hun;cases hun
 |succ k ih=>
  intro n listed a w hn hc hs hall htl h fuel hf;obtain⟨f,rfl⟩:∃f,fuel=f+1:=⟨fuel-1,by omega⟩;rw[List.range'_succ,wpOps_cons]at h;refine⟨λh0=>absurd h0 (least_ready hd hs n (by omega) (htl n (Nat.le_refl _) (by omega))),λi hi=>?_⟩;obtain⟨hun,o,ho,hw⟩:=mem_ready.1 hi;have hil:i<ops.size:=(Array.getElem?_eq_some_iff.1 ho).1;have hge:n<=i:=by
   rcases Nat.lt_or_ge i n with h1|h1
   ·rw[hall i h1]at hun;cases hun
   ·exact h1
  obtain rfl:i=n:=by
   rcases Nat.lt_or_ge n i with h1|h1
   ·exfalso;have h2:=List.all_eq_true.1 hc i (List.mem_range.2 hil);simp only[Bool.or_eq_true,decide_eq_true_eq]at h2;rcases h2 with h2|h2
    ·omega
    ·obtain⟨o',ho',e,he,hb,hon⟩:=Region.waitsFor_spec h2;obtain rfl:o'=o:=Option.some.inj (ho'.symm.trans ho);have h3:=hw e he hb;rw[hon,getD_both (htl (i-1) (by omega) (by omega))]at h3;cases h3
   ·omega
  refine wpOp_mono (λa' w' h'=>ih (i+1) _ a' w' (by omega) ?_ (by simpa using hs) (λj hj=>?_) (λt ht ht'=>?_) h' f (by omega)) h
  ·unfold Region.chainB at hc ⊢;rw[List.all_eq_true]at hc ⊢;intro t ht;have h2:=hc t ht;simp only[Bool.or_eq_true,decide_eq_true_eq]at h2 ⊢;rcases h2 with h2|h2
   ·exact .inl (by omega)
   ·exact .inr h2
  ·by_cases hij:i=j
   ·subst hij;rw[Array.getD_eq_getD_getElem?,Array.getElem?_setIfInBounds_self_of_lt (by omega)];rfl
   ·rw[getD_set_ne true hij];exact hall j (by omega)
  ·rw[getD_set_ne true (by omega)];exact htl t (by omega) ht'
theorem headInv0(n:Nat):HeadInv md ops n (Array.replicate ops.size false):=by
 refine⟨by simp,λj oj hj hl=>?_,λt ht ht'=>by simp[ht']⟩;rw[getD_replicate_false]at hl;cases hl
end
structure Agree (D:List Nat) (a0 a:Act):Prop where
 defers:a.defers=a0.defers
 size:a.tmps.size=a0.tmps.size
 it:∀k,k∉D->a.tmps[k]?=a0.tmps[k]?
theorem Agree.refl(D:List Nat)(a:Act):Agree D a a:=⟨rfl,rfl,λ_ _=>rfl⟩
theorem Agree.put{D:List Nat}{a0 a:Act}(h:Agree D a0 a){d:Nat}(hd:d∈D)(v:Value):Agree D a0 (a.put (some d) v):=
 ⟨h.defers,by rw[<-h.size];exact Array.size_setIfInBounds,λk hk=>by
  rw[<-h.it k hk];exact Array.getElem?_setIfInBounds_ne (λe=>hk (by rw[<-e];exact hd))⟩
theorem Agree.eval{D:List Nat}{a0 a:Act}(h:Agree D a0 a){k:Nat}(hk:k∉D):a.eval (.tmp k)=a0.eval (.tmp k):=by
 show a.tmps.getD k undef=a0.tmps.getD k undef;rw[Array.getD_eq_getD_getElem?,Array.getD_eq_getD_getElem?,h.it k hk]
theorem eval_put_self{a:Act}{d:Nat}(hd:d<a.tmps.size)(v:Value):(a.put (some d) v).eval (.tmp d)=v:=by
 show(a.tmps.setIfInBounds d v).getD d undef=v;rw[Array.getD_eq_getD_getElem?,Array.getElem?_setIfInBounds_self_of_lt hd];rfl
theorem eval_put_ne{a:Act}{d k:Nat}(hd:d≠k)(v:Value):(a.put (some d) v).eval (.tmp k)=a.eval (.tmp k):=by
 show(a.tmps.setIfInBounds d v).getD k undef=a.tmps.getD k undef;rw[Array.getD_eq_getD_getElem?,Array.getD_eq_getD_getElem?,Array.getElem?_setIfInBounds_ne hd]
theorem Agree.first{d:Nat}{D:List Nat}{a0 a:Act}(h:Agree (d::D) a0 a):Agree D (a0.put (some d) (a.eval (.tmp d))) a:=by
 refine⟨h.defers,by rw[h.size];exact Array.size_setIfInBounds.symm,λk hk=>?_⟩;show _=(a0.tmps.setIfInBounds d (a.eval (.tmp d)))[k]?;by_cases hkd:d=k
 ·subst hkd;by_cases hlt:d<a0.tmps.size
  ·rw[Array.getElem?_setIfInBounds_self_of_lt hlt];show _=some (a.tmps.getD d undef);have h2:d<a.tmps.size:=by rw[h.size];exact hlt
   rw[Array.getD_eq_getD_getElem?,Array.getElem?_eq_getElem h2];rfl
  ·rw[Array.getElem?_eq_none (by rw[h.size];omega),Array.getElem?_eq_none (by rw[Array.size_setIfInBounds];omega)]
 ·rw[Array.getElem?_setIfInBounds_ne hkd];exact h.it k (λhm=>by rcases List.mem_cons.1 hm with e|e;exact hkd e.symm;exact hk e)
theorem agree_lit:∀{D:List Nat} {a0 a:Act},Agree D a0 a->a=D.foldl (λb d=>b.put (some d) (a.eval (.tmp d))) a0
 |[],a0,a,h=>by
  obtain⟨t0,d0⟩:=a0;obtain⟨t,d⟩:=a;obtain rfl:d=d0:=h.defers;obtain rfl:t=t0:=Array.ext_getElem? λk=>h.it k (by simp);rfl
 |d::D,a0,a,h=>agree_lit (D:=D) (a0:=a0.put (some d) (a.eval (.tmp d))) (a:=a) h.first
section
variable {P:Program} {ops:Array Oper} {Q:Exit->Act->World->Prop} {md:Region.Mode} {S:World->Prop}
theorem wpAnyH_takeD{i d:Nat}{oi:Oper}{v:Value}{fuel:Nat}{listed:Array Bool}{a:Act}{w:World}(hi:ops[i]?=some oi)(hdst:oi.dst=some d)
 (hs:Region.noSelect ops=true) (hf:Region.free md ops listed i=true) (hr:(Region.ready md ops listed).contains i=true)
 (hQ:∀c a w,Q (.panic c) (a.put (some d) v) w->Q (.panic c) a w) (hy:YieldsIf P ops S oi v a) (hS:S w)
 (h:wpAnyH P md ops Q S fuel (listed.setIfInBounds i true) (a.put (some d) v) w):wpAnyH P md ops Q S (fuel+1) listed a w:=by
 rw[<-hdst]at hQ h;exact wpAnyH_take hi hs hf hr hQ hy hS h
theorem run_call_append{w w':World}{ρ:Operand->Value}{o:Oper}(s x:Operand)(t:TypeId)(ho:o.op=.call {callee:=.builtin .append,args:=#[s,x],argTypes:=#[t,t]}){vs vx r:Value}(hs:ρ s=vs)(hx:ρ x=vx)
 (h:(Builtin.append_ #[t,t] o.type #[vs,vx]).run P w=.ok r w'):(execOp ρ o).run P w=.ok (.value r) w':=by
 unfold execOp;simp only[ho,resolve,invoke,builtin,Sem.run_bind,Sem.run_pure,Result.andThen_ok,List.map_toArray,List.map_cons,List.map_nil,hs,hx,h]
end
end Go.Proofs.YtlanckgcjijefaaGreatDoor
