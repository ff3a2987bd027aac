import Derived.Test.YtglihimiidiacaaGreatDoorCa
import Derived.RegionTactic
import Derived.ChangeAlike
import Derived.Test.YtglihimiidiacaaGreatDoorCb
namespace Go.Proofs.YtglihimiidiacaaGreatDoor
open Go.RowKit
def outD(x:LIns)(d:Int):Option Int:=if d=-2 then some (-2) else if fitsV x.op.toNat x.a d then some (behV x.op.toNat x.a d) else none
def succs(x:LIns)(k:Nat):List Nat:=if x.op=19∨x.op=20 then [] else if x.op=18 then [x.a.toNat] else if x.op=17 then x.alts.map fun a=>a.tto.toNat else [k+1]
def reachAll(s:List Int×List Nat)(l:List Nat)(d:Int):List Int×List Nat:=l.foldl (fun s k=>reachL s.1 s.2 k d) s
def leaveL(x:LIns)(dep:List Int)(todo:List Nat)(k:Nat):List Int×List Nat:=
 match outD x (dep.getD k 0) with
 |none=>(dep,todo)
 |some d=>reachAll (dep,todo) (succs x k) d
theorem reachL_len(dep:List Int)(todo:List Nat)(k:Nat)(d:Int):(reachL dep todo k d).1.length=dep.length:=by unfold reachL;split<;>simp
theorem reachL_todo(dep:List Int)(todo:List Nat)(k:Nat)(d:Int):(reachL dep todo k d).2.length≤todo.length+1:=by unfold reachL;split<;>simp
theorem reachAll_len(l:List Nat)(d:Int):∀s:List Int×List Nat,(reachAll s l d).1.length=s.1.length:=by
 induction l with
 |nil=>intro s;rfl
 |cons k r ih=>intro s;show(reachAll (reachL s.1 s.2 k d) r d).1.length=_;rw[ih,reachL_len]
theorem reachAll_todo(l:List Nat)(d:Int):∀s:List Int×List Nat,(reachAll s l d).2.length≤s.2.length+l.length:=by
 induction l with
 |nil=>intro s;simp[reachAll]
 |cons k r ih=>
  intro s;have h1:=ih (reachL s.1 s.2 k d);have h2:=reachL_todo s.1 s.2 k d;show(reachAll (reachL s.1 s.2 k d) r d).2.length≤_;simp only[List.length_cons];omega
theorem reachAll_snoc(s:List Int×List Nat)(l:List Nat)(k:Nat)(d:Int):reachAll s (l++[k]) d=reachL (reachAll s l d).1 (reachAll s l d).2 k d:=by
 simp[reachAll]
theorem Walking.keep{w w':World}{base B D:Nat}{cv:Value}{dep:List Int}{tv:Value}{todo:List Nat}(h:Walking w base B D cv dep tv todo)(hb:Below w.heap.size w w'):Walking w' base B D cv dep tv todo:=by
 have k:=bcell hb;have own:w'.ownsRow base 3 1 tv todo.length (todo.map fun a:Nat=>Value.int .i64 (a:Int)):=by
  refine⟨h.own.1,?_⟩;rcases h.own.2 with e|⟨g,cap,cur,e,hg,hh,r⟩
  ·exact Or.inl e
  ·refine Or.inr ⟨g,cap,cur,e,hg,?_,r⟩;have hlt:g<w.heap.size:=by
    rcases Nat.lt_or_ge g w.heap.size with hlt|hge
    ·exact hlt
    ·rw[Array.getElem?_eq_none hge]at hh;cases hh
   rw[hb.block g hlt];exact hh
 exact {hB:=h.hB,hD:=h.hD,ne:=h.ne,lB:=Nat.lt_of_lt_of_le h.lB hb.size,lD:=Nat.lt_of_lt_of_le h.lD hb.size,c0:=cell_keep hb h.c0,c1:=cell_keep hb h.c1,c2:=cell_keep hb h.c2,f2:=by rw[k.2 _ _ h.lB];exact h.f2,dc:=fun i hi=>cell_keep hb (h.dc i hi),df:=fun i hi=>by rw[k.2 _ _ h.lD];exact h.df i hi,own:=own,aB:=h.aB,aD:=h.aD}
structure Left (w0 w:World) (B D:Nat) (p:Option Addr) (cap:Nat) (code:List LIns) (dep:List Int) (tv:Value) (todo:List Nat) (k:Nat) (x:LIns) (m:Nat):Prop where
 walking:Walking w w0.heap.size B D (.slice p code.length cap) dep tv todo
 cod:CodeAt w0 (.slice p code.length cap) code
 tab:TabAt w0
 below:Below w0.heap.size w0 w
 len:code.length=dep.length
 hk:k<code.length
 hx:code[k]?=some x
 hn:dep.length≤65535
 hm:m<21
 op:x.op=m
 next:∀s∈succs x k,s<code.length
 nonneg:(m=18→0≤x.a)∧∀al∈x.alts,0≤al.tto
 room:todo.length+x.alts.length+1≤200000
set_option maxHeartbeats 2000000 in
theorem leave_stop(w0 w:World)(B D:Nat)(p:Option Addr)(cap:Nat)(code:List LIns)(dep:List Int)(tv:Value)(todo:List Nat)(k:Nat)(x:LIns)(m:Nat)(h:Left w0 w B D p cap code dep tv todo k x m)(d:Int)(hd:dep.getD k 0=d)(h2:(d !=-2)=true)(hf:fitsV m x.a d=false):
 Calls Tryz.prog 154 #[.pointer (some ⟨B,0,none⟩),.int .i64 k] w fun e w'=>e=.returned (.tuple #[])∧(∃tv',Walking w' w0.heap.size B D (.slice p code.length cap) dep tv' todo)∧Below w0.heap.size w w':=by
 obtain⟨p',cap',e,hs1,hcell⟩:=h.cod.open;obtain⟨rfl,-,rfl⟩:p=p'∧code.length=code.length∧cap=cap':=by simpa using e
 have hk:=h.hk;have hlen:=h.len;have hm:=h.hm;have ex:code[k]=x:=by have:=h.hx;rw[List.getElem?_eq_getElem hk]at this;simpa using this
 obtain⟨b,o,ap,an,ac,rfl,x0,x1,x2,hA⟩:=hcell w h.below k hk;rw[ex,h.op]at x0;rw[ex]at x1;have c0:=h.walking.c0;have c1:=h.walking.c1;have dk:=h.walking.dc k (by omega);have ed:dep[k]=d:=by rw[←hd];simp[List.getD,show k<dep.length by omega]
 rw[ed]at dk;have lB:B<w.heap.size:=h.walking.lB;have lD:D<w.heap.size:=h.walking.lD;have lb:b<w.heap.size:=block_lt_of_cell x0;have nB:B≠w.heap.size:=by omega
 have nD:D≠w.heap.size:=by omega
 have nb:b≠w.heap.size:=by omega
 have hk1:(0:Int)≤(k:Int):=by omega
 have hk2:(k:Int)<(code.length:Int):=by omega
 have hk3:(k:Int)<(dep.length:Int):=by omega
 have HF:Hid (fitsV m x.a d=false):=hf;have HW:Hid (Walking w w0.heap.size B D (.slice (some ⟨b,o,none⟩) code.length cap) dep tv todo):=h.walking;have HT:Hid (TabAt w):=h.tab.keep h.below;have h0:=h.below.size;clear hcell hA e h ex hd ed hf hlen;generalize x.a=a at*;go_enter Tryz.func154,Tryz.ntmps154;go_wp2;go_region
 go_wp2_with (first|(go_at_call 155;refine(fits_tab m a d ap an ac _ hm ?_).mono ?_;exact HT.out.keep ((Below.refl _ _).alloc (Nat.le_refl _) _).drew;rintro e w1 ⟨he,hb1⟩;rw[HF.out]at he;subst he))
 have hb2:=(((Below.refl _ _).alloc (Nat.le_refl _) _).drew).trans (hb1.mono (by simp[World.drew]));exact bodyPost_ret (v:=.tuple #[]) (by simp[results,Tryz.results154,go_sem]) rfl ⟨rfl,⟨tv,HW.out.keep hb2⟩,hb2.mono h0⟩
set_option maxHeartbeats 4000000 in
theorem leave_one(w0 w:World)(B D:Nat)(p:Option Addr)(cap:Nat)(code:List LIns)(dep:List Int)(tv:Value)(todo:List Nat)(k:Nat)(x:LIns)(m:Nat)(h:Left w0 w B D p cap code dep tv todo k x m)(d dv:Int)(hd:dep.getD k 0=d)
 (h2:d=-2∧dv=-2∨(d !=-2)=true∧fitsV m x.a d=true∧dv=behV m x.a d) (s:Nat) (hs:s<code.length) (hms:m=18∧x.a=s∨((m:Int)==19)=false∧((m:Int)==20)=false∧((m:Int)==18)=false∧((m:Int)==17)=false∧s=k+1):
 Calls Tryz.prog 154 #[.pointer (some ⟨B,0,none⟩),.int .i64 k] w fun e w'=>e=.returned (.tuple #[])∧(∃tv',Walking w' w0.heap.size B D (.slice p code.length cap) (reachL dep todo s dv).1 tv' (reachL dep todo s dv).2)∧Below w0.heap.size w w':=by
 obtain⟨p',cap',e,hs1,hcell⟩:=h.cod.open;obtain⟨rfl,-,rfl⟩:p=p'∧code.length=code.length∧cap=cap':=by simpa using e
 have hk:=h.hk;have hlen:=h.len;have hm:=h.hm;have hn:=h.hn;have hr:=h.room;have ex:code[k]=x:=by have:=h.hx;rw[List.getElem?_eq_getElem hk]at this;simpa using this
 obtain⟨b,o,ap,an,ac,rfl,x0,x1,x2,hA⟩:=hcell w h.below k hk;rw[ex,h.op]at x0;rw[ex]at x1;have c0:=h.walking.c0;have c1:=h.walking.c1;have dk:=h.walking.dc k (by omega);have ed:dep[k]=d:=by rw[←hd];simp[List.getD,show k<dep.length by omega]
 rw[ed]at dk;have lB:B<w.heap.size:=h.walking.lB;have lD:D<w.heap.size:=h.walking.lD;have lb:b<w.heap.size:=block_lt_of_cell x0;have nB:B≠w.heap.size:=by omega
 have nD:D≠w.heap.size:=by omega
 have nb:b≠w.heap.size:=by omega
 have hk1:(0:Int)≤(k:Int):=by omega
 have hk2:(k:Int)<(code.length:Int):=by omega
 have hk3:(k:Int)<(dep.length:Int):=by omega
 have hk4:(k:Int)<65536:=by omega
 have HW:Hid (Walking w w0.heap.size B D (.slice (some ⟨b,o,none⟩) code.length cap) dep tv todo):=h.walking;have HT:Hid (TabAt w):=h.tab.keep h.below;have h0:=h.below.size;have HR:Hid (∀w1,Below w.heap.size w w1→Calls Tryz.prog 153 #[.pointer (some ⟨B,0,none⟩),.int .i64 s,.int .i64 dv] w1 fun e w'=>e=.returned (.tuple #[])∧(∃tv',Walking w' w0.heap.size B D (.slice (some ⟨b,o,none⟩) code.length cap) (reachL dep todo s dv).1 tv' (reachL dep todo s dv).2)∧Below w0.heap.size w1 w'):=
  fun w1 hb=>reach_any w0.heap.size B D _ dep tv todo s dv w1 (HW.out.keep hb) (by omega) hn (by omega) (Nat.le_trans h0 hb.size)
 clear hcell hA e h ex hd ed hlen hn hr;generalize x.a=a at*;generalize (reachL dep todo s dv)=rl at*;rcases hms with⟨rfl,rfl⟩|⟨t1,t2,t3,t4,rfl⟩
 ·rcases h2 with⟨rfl,rfl⟩|⟨g1,g2,rfl⟩
  ·skip
   go_enter Tryz.func154,Tryz.ntmps154;go_wp2;go_region
   go_wp2_with (first|(go_at_call 153;refine(HR.out _ ?_).mono ?_;exact((Below.refl _ _).alloc (Nat.le_refl _) _).drew;rintro e w3 ⟨rfl,hw3,hb3⟩))
   go_end0
   exact⟨rfl,hw3,(((Below.refl _ _).alloc h0 _).drew).trans hb3⟩
  ·have HF:Hid (fitsV 18 (s:Int) d=true):=g2;clear g2;go_enter Tryz.func154,Tryz.ntmps154;go_wp2;go_region
   go_wp2_with (first|(go_at_call 155;refine(fits_tab _ _ d ap an ac _ hm ?_).mono ?_;exact HT.out.keep ((Below.refl _ _).alloc (Nat.le_refl _) _).drew;rintro e w1 ⟨he,hb1⟩;rw[HF.out]at he;subst he;obtain⟨z0,z1⟩:=bcell hb1;have hz1:w.heap.size<w1.heap.size:=(by have:=hb1.size;simp[World.drew]at this;omega))|(go_at_call 194;refine(behind_tab _ _ d _ _ hm ?_).mono ?_;exact HT.out.keep (((Below.refl _ _).alloc (Nat.le_refl _) _).drew.trans (hb1.mono (by simp[World.drew])));rintro e w2 ⟨rfl,hb2⟩;obtain⟨z2,z3⟩:=bcell hb2)|(go_at_call 153;refine(HR.out _ ?_).mono ?_;exact(((Below.refl _ _).alloc (Nat.le_refl _) _).drew.trans (hb1.mono (by simp[World.drew]))).trans (hb2.mono (by omega));rintro e w3 ⟨rfl,hw3,hb3⟩))
   go_end0
   exact⟨rfl,hw3,((((Below.refl _ _).alloc h0 _).drew.trans (hb1.mono (by simp[World.drew];omega))).trans (hb2.mono (by omega))).trans hb3⟩
 ·rcases h2 with⟨rfl,rfl⟩|⟨g1,g2,rfl⟩
  ·skip
   go_enter Tryz.func154,Tryz.ntmps154;go_wp2;go_region
   go_wp2_with (first|(go_at_call 153;refine(HR.out _ ?_).mono ?_;exact((Below.refl _ _).alloc (Nat.le_refl _) _).drew;rintro e w3 ⟨rfl,hw3,hb3⟩))
   go_end0
   exact⟨rfl,hw3,(((Below.refl _ _).alloc h0 _).drew).trans hb3⟩
  ·have HF:Hid (fitsV m a d=true):=g2;clear g2;go_enter Tryz.func154,Tryz.ntmps154;go_wp2;go_region
   go_wp2_with (first|(go_at_call 155;refine(fits_tab _ _ d ap an ac _ hm ?_).mono ?_;exact HT.out.keep ((Below.refl _ _).alloc (Nat.le_refl _) _).drew;rintro e w1 ⟨he,hb1⟩;rw[HF.out]at he;subst he;obtain⟨z0,z1⟩:=bcell hb1;have hz1:w.heap.size<w1.heap.size:=(by have:=hb1.size;simp[World.drew]at this;omega))|(go_at_call 194;refine(behind_tab _ _ d _ _ hm ?_).mono ?_;exact HT.out.keep (((Below.refl _ _).alloc (Nat.le_refl _) _).drew.trans (hb1.mono (by simp[World.drew])));rintro e w2 ⟨rfl,hb2⟩;obtain⟨z2,z3⟩:=bcell hb2)|(go_at_call 153;refine(HR.out _ ?_).mono ?_;exact(((Below.refl _ _).alloc (Nat.le_refl _) _).drew.trans (hb1.mono (by simp[World.drew]))).trans (hb2.mono (by omega));rintro e w3 ⟨rfl,hw3,hb3⟩))
   go_end0
   exact⟨rfl,hw3,((((Below.refl _ _).alloc h0 _).drew.trans (hb1.mono (by simp[World.drew];omega))).trans (hb2.mono (by omega))).trans hb3⟩
end Go.Proofs.YtglihimiidiacaaGreatDoor
namespace Go.Proofs.YtglihimiidiacaaGreatDoor
open Go.RowKit
def leI(a b:Int):Prop:=a=-1∨a=b∨b=-2
theorem leI.refl(a:Int):leI a a:=Or.inr (Or.inl rfl)
theorem leI.trans{a b c:Int}(h1:leI a b)(h2:leI b c):leI a c:=by unfold leI at*;omega
theorem leI.antisymm{a b:Int}(h1:leI a b)(h2:leI b a):a=b:=by unfold leI at*;omega
theorem leI.two(a:Int):leI a (-2):=Or.inr (Or.inr rfl)
theorem leI.bot(a:Int):leI (-1) a:=Or.inl rfl
def outI(x:LIns)(d:Int):Int:=if d=-1 then -1 else (outD x d).getD (-1)
theorem outI_mono(x:LIns){a b:Int}(h:leI a b):leI (outI x a) (outI x b):=by
 rcases h with rfl|rfl|rfl
 ·have:outI x (-1)=-1:=by simp[outI]
  rw[this];exact leI.bot _
 ·exact leI.refl _
 ·have:outI x (-2)=-2:=by simp[outI,outD]
  rw[this];exact leI.two _
structure PostFix (code:List LIns) (d0:Int) (g:List Int):Prop where
 len:g.length=code.length
 start:leI d0 (g.getD 0 0)
 step:∀k (hk:k<code.length),∀s∈succs code[k] k,leI (outI code[k] (g.getD k 0)) (g.getD s 0)
structure Least (code:List LIns) (d0:Int) (dep:List Int):Prop where
 post:PostFix code d0 dep
 least:∀g,PostFix code d0 g→∀i,i<code.length→leI (dep.getD i 0) (g.getD i 0)
theorem Least.unique{code:List LIns}{d0:Int}{a b:List Int}(ha:Least code d0 a)(hb:Least code d0 b):a=b:=by
 apply List.ext_getElem (by rw[ha.post.len,hb.post.len]);intro i h1 h2;have hi:i<code.length:=by rw[←ha.post.len];exact h1
 have:=(ha.least b hb.post i hi).antisymm (hb.least a ha.post i hi);simpa[List.getD,h1,h2]using this
def rk(d:Int):Nat:=if d=-1 then 0 else if d=-2 then 2 else 1
def ranks(dep:List Int):Nat:=(dep.map rk).sum
theorem ranks_set:∀(dep:List Int) (k:Nat) (v:Int) (_:k<dep.length),ranks (dep.set k v)+rk (dep.getD k 0)=ranks dep+rk v
 |a::r,0,v,_=>by simp[ranks];omega
 |a::r,k+1,v,h=>by
  have:=ranks_set r k v (by simpa using h);simp[ranks]at*;omega
theorem rk_le(d:Int):rk d≤2:=by unfold rk;split<;>(try split)<;>omega
theorem ranks_le:∀dep:List Int,ranks dep≤2*dep.length
 |[]=>by simp[ranks]
 |a::r=>by
  have:=ranks_le r;have:=rk_le a;simp[ranks]at*;omega
theorem getD_set(l:List Int)(k i:Nat)(v:Int)(hk:k<l.length):(l.set k v).getD i 0=if i=k then v else l.getD i 0:=by
 by_cases e:i=k
 ·subst e;simp[List.getD,hk]
 ·rw[if_neg e];simp[List.getD,Ne.symm e]
theorem reachL_spec(dep:List Int)(todo:List Nat)(k:Nat)(d:Int)(hk:k<dep.length)(hd:d≠-1):
 (∀i,leI (dep.getD i 0) ((reachL dep todo k d).1.getD i 0))∧leI d ((reachL dep todo k d).1.getD k 0)∧
 (∀i,i∉(reachL dep todo k d).2→(reachL dep todo k d).1.getD i 0=dep.getD i 0)∧(∀i∈todo,i∈(reachL dep todo k d).2)∧(∀i∈(reachL dep todo k d).2,i∈todo∨i=k)∧
 (∀g:List Int,(∀i,leI (dep.getD i 0) (g.getD i 0))→leI d (g.getD k 0)→∀i,leI ((reachL dep todo k d).1.getD i 0) (g.getD i 0))∧
 ranks (reachL dep todo k d).1+todo.length≥ranks dep+(reachL dep todo k d).2.length∧todo.length≤(reachL dep todo k d).2.length:=by
 unfold reachL;by_cases h:dep.getD k 0=d∨dep.getD k 0=-2
 ·rw[if_pos h];refine⟨fun i=>leI.refl _,?_,fun _ _=>rfl,fun _ h=>h,fun _ h=>Or.inl h,fun g hg _=>hg,by simp⟩;show leI d (dep.getD k 0);rcases h with h|h
  ·rw[h];exact leI.refl _
  ·rw[h];exact leI.two _
 ·rw[if_neg h];have hr:=ranks_set dep k (if dep.getD k 0=-1 then d else -2) hk;refine⟨fun i=>?_,?_,fun i hi=>?_,fun i hi=>by simp[hi],fun i hi=>by simpa using hi,fun g hg hgk i=>?_,?_⟩
  ·show leI _ ((dep.set k _).getD i 0);rw[getD_set _ _ _ _ hk];by_cases e:i=k
   ·subst e;rw[if_pos rfl];by_cases e2:dep.getD i 0=-1
    ·rw[e2];exact leI.bot _
    ·rw[if_neg e2];exact leI.two _
   ·rw[if_neg e];exact leI.refl _
  ·show leI d ((dep.set k _).getD k 0);rw[getD_set _ _ _ _ hk,if_pos rfl];by_cases e2:dep.getD k 0=-1
   ·rw[if_pos e2];exact leI.refl _
   ·rw[if_neg e2];exact leI.two _
  ·show(dep.set k _).getD i 0=_;rw[getD_set _ _ _ _ hk];have:i≠k:=fun e=>hi (by simp[e]);rw[if_neg this]
  ·show leI ((dep.set k _).getD i 0) _;rw[getD_set _ _ _ _ hk];by_cases e:i=k
   ·subst e;rw[if_pos rfl];have h1:=hg i;by_cases e2:dep.getD i 0=-1
    ·rw[if_pos e2];exact hgk
    ·rw[if_neg e2];unfold leI at*;omega
   ·rw[if_neg e];exact hg i
  ·show ranks (dep.set k _)+todo.length≥ranks dep+(todo++[k]).length∧todo.length≤(todo++[k]).length;have h1:rk (dep.getD k 0)+1≤rk (if dep.getD k 0=-1 then d else -2):=by
    by_cases e2:dep.getD k 0=-1
    ·rw[if_pos e2];simp only[rk,e2];split<;>(try split)<;>simp_all
    ·rw[if_neg e2];simp only[rk];rw[if_neg e2,if_neg (by omega:¬dep.getD k 0=-2)];simp
   simp only[List.length_append,List.length_singleton];omega
theorem reachAll_spec(d:Int)(hd:d≠-1):∀(l:List Nat) (dep:List Int) (todo:List Nat),(∀k∈l,k<dep.length)→
 (∀i,leI (dep.getD i 0) ((reachAll (dep,todo) l d).1.getD i 0))∧(∀k∈l,leI d ((reachAll (dep,todo) l d).1.getD k 0))∧
 (∀i,i∉(reachAll (dep,todo) l d).2→(reachAll (dep,todo) l d).1.getD i 0=dep.getD i 0)∧(∀i∈todo,i∈(reachAll (dep,todo) l d).2)∧(∀i∈(reachAll (dep,todo) l d).2,i∈todo∨i∈l)∧
 (∀g:List Int,(∀i,leI (dep.getD i 0) (g.getD i 0))→(∀k∈l,leI d (g.getD k 0))→∀i,leI ((reachAll (dep,todo) l d).1.getD i 0) (g.getD i 0))∧
 ranks (reachAll (dep,todo) l d).1+todo.length≥ranks dep+(reachAll (dep,todo) l d).2.length∧todo.length≤(reachAll (dep,todo) l d).2.length:=by
 intro l;induction l with
 |nil=>intro dep todo _;exact⟨fun i=>leI.refl _,(by intro k hk;cases hk),fun _ _=>rfl,fun _ h=>h,fun _ h=>Or.inl h,fun g hg _=>hg,Nat.le_refl _,Nat.le_refl _⟩
 |cons k r ih=>
  intro dep todo hl;have e:reachAll (dep,todo) (k::r) d=reachAll ((reachL dep todo k d).1,(reachL dep todo k d).2) r d:=rfl;rw[e];obtain⟨a1,a2,a3,a4,a5,a6,a7⟩:=reachL_spec dep todo k d (hl k (by simp)) hd;obtain⟨b1,b2,b3,b4,b5,b6,b7⟩:=ih (reachL dep todo k d).1 (reachL dep todo k d).2 (fun j hj=>by rw[reachL_len];exact hl j (by simp[hj]));refine⟨fun i=>(a1 i).trans (b1 i),fun j hj=>?_,fun i hi=>?_,fun i hi=>b4 i (a4 i hi),fun i hi=>?_,fun g hg hgk=>b6 g (a6 g hg (hgk k (by simp))) (fun j hj=>hgk j (by simp[hj])),by omega⟩
  ·rcases List.mem_cons.1 hj with rfl|hj
   ·exact a2.trans (b1 _)
   ·exact b2 j hj
  ·rw[b3 i hi,a3 i (fun h=>hi (b4 i h))]
  ·rcases b5 i hi with h|h
   ·rcases a5 i h with h|h
    ·exact Or.inl h
    ·exact Or.inr (by simp[h])
   ·exact Or.inr (by simp[h])
structure Inv (code:List LIns) (d0:Int) (dep:List Int) (todo:List Nat):Prop where
 len:dep.length=code.length
 small:∀i∈todo,i<code.length
 start:leI d0 (dep.getD 0 0)
 below:∀g,PostFix code d0 g→∀i,leI (dep.getD i 0) (g.getD i 0)
 done:∀k (hk:k<code.length),k∉todo→∀s∈succs code[k] k,leI (outI code[k] (dep.getD k 0)) (dep.getD s 0)
 rank:todo.length≤ranks dep
 hot:∀i∈todo,dep.getD i 0≠-1
theorem Inv.least{code:List LIns}{d0:Int}{dep:List Int}(h:Inv code d0 dep []):Least code d0 dep:=
 ⟨⟨h.len,h.start,fun k hk=>h.done k hk (by simp)⟩,fun g hg i _=>h.below g hg i⟩
theorem Inv.next{code:List LIns}{d0:Int}{dep:List Int}{todo:List Nat}{k:Nat}(hk:k<code.length)(h:Inv code d0 dep (todo++[k]))(hs:∀s∈succs code[k] k,s<code.length)(hne:∀d,dep.getD k 0≠-1→outD code[k] (dep.getD k 0)=some d→d≠-1):
 Inv code d0 (leaveL code[k] dep todo k).1 (leaveL code[k] dep todo k).2∧2*(2*code.length-ranks (leaveL code[k] dep todo k).1)+(leaveL code[k] dep todo k).2.length<2*(2*code.length-ranks dep)+(todo++[k]).length:=by
 have hr:dep.getD k 0≠-1:=h.hot k (by simp);unfold leaveL;cases ho:outD code[k] (dep.getD k 0) with
 |none=>
  refine⟨⟨h.len,fun i hi=>h.small i (by simp[show i∈todo from hi]),h.start,h.below,fun j hj hjt=>?_,by have:=h.rank;simp at this ⊢;omega,fun i hi=>h.hot i (by simp[show i∈todo from hi])⟩,by simp⟩;by_cases e:j=k
  ·subst e;intro s _;have:outI code[j] (dep.getD j 0)=-1:=by unfold outI;rw[ho];split<;>rfl
   show leI (outI code[j] (dep.getD j 0)) _;rw[this];exact leI.bot _
  ·exact h.done j hj (by simp;exact⟨hjt,e⟩)
 |some dv=>
  have hdv:=hne dv hr ho;have hout:outI code[k] (dep.getD k 0)=dv:=by simp only[outI,ho];rw[if_neg hr];rfl
  obtain⟨a1,a2,a3,a4,a5,a6,a7⟩:=reachAll_spec dv hdv (succs code[k] k) dep todo (fun s hs'=>by rw[h.len];exact hs s hs');have hl:(reachAll (dep,todo) (succs code[k] k) dv).1.length=dep.length:=reachAll_len (succs code[k] k) dv (dep,todo);refine⟨⟨by simp only[hl];exact h.len,fun i hi=>?_,h.start.trans (a1 0),fun g hg=>a6 g (h.below g hg) (fun s hs'=>?_),fun j hj hjt s hs'=>?_,?_,fun i hi=>?_⟩,?_⟩
  ·rcases a5 i hi with h1|h1
   ·exact h.small i (by simp[h1])
   ·exact hs i h1
  ·have:=hg.step k hk s hs';exact(by rw[←hout];exact outI_mono _ (h.below g hg k):leI dv (outI code[k] (g.getD k 0))).trans this
  ·show leI (outI code[j] ((reachAll (dep,todo) (succs code[k] k) dv).1.getD j 0)) _;rw[a3 j hjt];by_cases e:j=k
   ·subst e;rw[hout];exact a2 s hs'
   ·exact(h.done j hj (by simp;exact⟨fun hjt'=>hjt (a4 j hjt'),e⟩) s hs').trans (a1 s)
  ·show(reachAll (dep,todo) (succs code[k] k) dv).2.length≤ranks (reachAll (dep,todo) (succs code[k] k) dv).1;have:=h.rank;simp at this;omega
  ·show(reachAll (dep,todo) (succs code[k] k) dv).1.getD i 0≠-1;rcases a5 i hi with h1|h1
   ·have h2:=h.hot i (by simp[h1]);have h3:=a1 i;unfold leI at h3;omega
   ·have h3:=a2 i h1;unfold leI at h3;omega
  ·have h1:=ranks_le (reachAll (dep,todo) (succs code[k] k) dv).1;rw[hl]at h1;have h2:dep.length=code.length:=h.len;simp only[List.length_append,List.length_singleton];show 2*(2*code.length-ranks (reachAll (dep,todo) (succs code[k] k) dv).1)+(reachAll (dep,todo) (succs code[k] k) dv).2.length<_;have h3:=ranks_le dep;omega
theorem Inv.first{code:List LIns}{d0:Int}{dep:List Int}(hd:0≤d0)(hl:dep.length=code.length)(hp:0<code.length)(ha:∀i,i<dep.length→dep.getD i 0=-1):Inv code d0 (reachL dep [] 0 d0).1 (reachL dep [] 0 d0).2:=by
 have h0:dep.getD 0 0=-1:=ha 0 (by omega);have e:reachL dep [] 0 d0=(dep.set 0 d0,[0]):=by unfold reachL;rw[h0,if_neg (by omega),if_pos rfl];rfl
 have hout:∀i,i≠0→i<code.length→(dep.set 0 d0).getD i 0=-1:=fun i hi hl'=>by rw[getD_set _ _ _ _ (by omega),if_neg hi];exact ha i (by omega)
 rw[e];refine⟨by simp[hl],by simp;omega,?_,fun g hg i=>?_,fun k hk hkt s hs=>?_,?_,?_⟩
 ·show leI d0 ((dep.set 0 d0).getD 0 0);rw[getD_set _ _ _ _ (by omega),if_pos rfl];exact leI.refl _
 ·show leI ((dep.set 0 d0).getD i 0) _;by_cases h:i=0
  ·subst h;rw[getD_set _ _ _ _ (by omega),if_pos rfl];exact hg.start
  ·by_cases h2:i<code.length
   ·rw[hout i h h2];exact leI.bot _
   ·have e1:(dep.set 0 d0).getD i 0=0:=by simp[List.getD,show dep.length≤i by omega]
    have e2:g.getD i 0=0:=by have:=hg.len;simp[List.getD,show g.length≤i by omega]
    rw[e1,e2];exact leI.refl _
 ·have hk0:k≠0:=by simpa using hkt
  show leI (outI code[k] ((dep.set 0 d0).getD k 0)) _;rw[hout k hk0 hk];have:outI code[k] (-1)=-1:=by simp[outI]
  rw[this];exact leI.bot _
 ·show 1≤ranks (dep.set 0 d0);have:=ranks_set dep 0 d0 (by omega);rw[h0]at this;have h3:rk (-1)=0:=rfl;have h4:rk d0=1:=by unfold rk;rw[if_neg (by omega),if_neg (by omega)]
  omega
 ·intro i hi;have:i=0:=by simpa using hi
  subst this;show(dep.set 0 d0).getD 0 0≠-1;rw[getD_set _ _ _ _ (by omega),if_pos rfl];omega
end Go.Proofs.YtglihimiidiacaaGreatDoor
namespace Go.Proofs.YtglihimiidiacaaGreatDoor
open Go.RowKit
def wrongR(m:Nat)(a d:Int):Bool:=decide (d<needR m a)||((m==19) && (d !=1))||decide (1000<d+moreR m a)
end Go.Proofs.YtglihimiidiacaaGreatDoor
namespace Go.Proofs.YtglihimiidiacaaGreatDoor
open Go.RowKit
theorem insG_a(m:Nat)(hm:m<21)(a:Int)(alts:List LAlt)(h:insG m a alts=true):(m≠0→0≤a∧a≤65535)∧((m=2∨m=4∨m=5∨m=6∨m=7)→a≤1000)∧(m=7→1≤a)∧(m=16→a≤255)∧(m≠17→alts=[])∧(m=17→altsGood alts=true):=by
 simp only[insG]at h;rw[if_pos (by omega)]at h;have ht:((m:Int)).toNat=m:=by omega
 rw[ht]at h;rcases all21 m hm with rfl|rfl|rfl|rfl|rfl|rfl|rfl|rfl|rfl|rfl|rfl|rfl|rfl|rfl|rfl|rfl|rfl|rfl|rfl|rfl|rfl;all_goals
  simp[rowN,rowsTab]at h;first
   |(simp[h];done)
   |(obtain⟨h1,h2⟩:=h;simp[h1,h2];done)
   |(obtain⟨⟨h1,h2⟩,h3⟩:=h;refine⟨fun _=>⟨by omega,by omega⟩,by omega,by omega,by omega,fun _=>h1,by omega⟩)
theorem eff_math(m:Nat)(hm:m<21)(a d:Int)(alts:List LAlt)(hg:insG m a alts=true)(h0:0≤d)(h1:d≤100000):
 fitsV m a d=!wrongR m a d∧(wrongR m a d=false→behV m a d=d+moreR m a∧0≤d+moreR m a∧d+moreR m a≤1000):=by
 obtain⟨a1,a2,a3,a4,-,-⟩:=insG_a m hm a alts hg;clear hg;by_cases hm0:m=0
 ·subst hm0;refine⟨?_,?_⟩
  ·rw[Bool.eq_iff_iff];simp[fitsV,needV,behV,wrongR,needR,moreR,rowN,rowsTab,amt,wrap64];try omega
  ·simp[behV,wrongR,needR,moreR,rowN,rowsTab,amt,wrap64];try omega
 ·obtain⟨b1,b2⟩:=a1 hm0;clear a1;have ht:a.tmod 256=a % 256:=Int.tmod_eq_emod_of_nonneg b1;rcases all21 m hm with rfl|rfl|rfl|rfl|rfl|rfl|rfl|rfl|rfl|rfl|rfl|rfl|rfl|rfl|rfl|rfl|rfl|rfl|rfl|rfl|rfl
  ·exact absurd rfl hm0
  all_goals
   clear hm hm0;refine⟨?_,?_⟩
   ·rw[Bool.eq_iff_iff];simp[fitsV,needV,behV,wrongR,needR,moreR,rowN,rowsTab,amt,wrap64];try(first|omega|(rw[ht];omega))
   ·simp[behV,wrongR,needR,moreR,rowN,rowsTab,amt,wrap64];try(first|omega|(rw[ht];omega))
end Go.Proofs.YtglihimiidiacaaGreatDoor
namespace Go.Proofs.YtglihimiidiacaaGreatDoor
open Go.RowKit
set_option maxHeartbeats 4000000 in
theorem leave_none(w0 w:World)(B D:Nat)(p:Option Addr)(cap:Nat)(code:List LIns)(dep:List Int)(tv:Value)(todo:List Nat)(k:Nat)(x:LIns)(m:Nat)(h:Left w0 w B D p cap code dep tv todo k x m)(d:Int)(hd:dep.getD k 0=d)
 (h2:d=-2∨(d !=-2)=true∧fitsV m x.a d=true) (hms:m=19∨m=20):
 Calls Tryz.prog 154 #[.pointer (some ⟨B,0,none⟩),.int .i64 k] w fun e w'=>e=.returned (.tuple #[])∧(∃tv',Walking w' w0.heap.size B D (.slice p code.length cap) dep tv' todo)∧Below w0.heap.size w w':=by
 obtain⟨p',cap',e,hs1,hcell⟩:=h.cod.open;obtain⟨rfl,-,rfl⟩:p=p'∧code.length=code.length∧cap=cap':=by simpa using e
 have hk:=h.hk;have hlen:=h.len;have hm:=h.hm;have ex:code[k]=x:=by have:=h.hx;rw[List.getElem?_eq_getElem hk]at this;simpa using this
 obtain⟨b,o,ap,an,ac,rfl,x0,x1,x2,hA⟩:=hcell w h.below k hk;rw[ex,h.op]at x0;rw[ex]at x1;have c0:=h.walking.c0;have c1:=h.walking.c1;have dk:=h.walking.dc k (by omega);have ed:dep[k]=d:=by rw[←hd];simp[List.getD,show k<dep.length by omega]
 rw[ed]at dk;have lB:B<w.heap.size:=h.walking.lB;have lD:D<w.heap.size:=h.walking.lD;have lb:b<w.heap.size:=block_lt_of_cell x0;have nB:B≠w.heap.size:=by omega
 have nD:D≠w.heap.size:=by omega
 have nb:b≠w.heap.size:=by omega
 have hk1:(0:Int)≤(k:Int):=by omega
 have hk2:(k:Int)<(code.length:Int):=by omega
 have hk3:(k:Int)<(dep.length:Int):=by omega
 have HW:Hid (Walking w w0.heap.size B D (.slice (some ⟨b,o,none⟩) code.length cap) dep tv todo):=h.walking;have HT:Hid (TabAt w):=h.tab.keep h.below;have h0:=h.below.size;clear hcell hA e h ex hd ed hlen;generalize x.a=a at*;rcases h2 with rfl|⟨g1,g2⟩
 ·rcases hms with rfl|rfl;all_goals
   go_enter Tryz.func154,Tryz.ntmps154;go_wp2;go_region
   go_wp2;go_end0
   exact⟨rfl,⟨tv,HW.out.keep ((Below.refl _ _).alloc (Nat.le_refl _) _).drew⟩,((Below.refl _ _).alloc h0 _).drew⟩
 ·have HF:Hid (fitsV m a d=true):=g2;clear g2;rcases hms with rfl|rfl;all_goals
   go_enter Tryz.func154,Tryz.ntmps154;go_wp2;go_region
   go_wp2_with (first|(go_at_call 155;refine(fits_tab _ _ d ap an ac _ hm ?_).mono ?_;exact HT.out.keep ((Below.refl _ _).alloc (Nat.le_refl _) _).drew;rintro e w1 ⟨he,hb1⟩;rw[HF.out]at he;subst he;obtain⟨z0,z1⟩:=bcell hb1;have hz1:w.heap.size<w1.heap.size:=(by have:=hb1.size;simp[World.drew]at this;omega))|(go_at_call 194;refine(behind_tab _ _ d _ _ hm ?_).mono ?_;exact HT.out.keep (((Below.refl _ _).alloc (Nat.le_refl _) _).drew.trans (hb1.mono (by simp[World.drew])));rintro e w2 ⟨rfl,hb2⟩;obtain⟨z2,z3⟩:=bcell hb2))
   go_end0
   have hbf:=(((Below.refl _ _).alloc (Nat.le_refl _) _).drew.trans (hb1.mono (by simp[World.drew]))).trans (hb2.mono (by omega));exact⟨rfl,⟨tv,HW.out.keep hbf⟩,hbf.mono h0⟩
def casesL(dep:List Int)(todo:List Nat)(l:List LAlt)(j:Nat)(d:Int):List Int×List Nat:=reachAll (dep,todo) ((l.take j).map fun a=>a.tto.toNat) d
theorem casesL_next(dep:List Int)(todo:List Nat)(l:List LAlt)(j:Nat)(d:Int)(hj:j<l.length):casesL dep todo l (j+1) d=reachL (casesL dep todo l j d).1 (casesL dep todo l j d).2 l[j].tto.toNat d:=by
 unfold casesL;rw[List.take_succ_eq_append_getElem hj,List.map_append,List.map_cons,List.map_nil,reachAll_snoc]
set_option maxHeartbeats 4000000 in
theorem leave_case(w0 w:World)(B D:Nat)(p:Option Addr)(cap:Nat)(code:List LIns)(dep:List Int)(tv:Value)(todo:List Nat)(k:Nat)(x:LIns)(m:Nat)(h:Left w0 w B D p cap code dep tv todo k x m)(d dv:Int)(hd:dep.getD k 0=d)
 (h2:d=-2∧dv=-2∨(d !=-2)=true∧fitsV m x.a d=true∧dv=behV m x.a d) (hms:m=17):
 Calls Tryz.prog 154 #[.pointer (some ⟨B,0,none⟩),.int .i64 k] w fun e w'=>e=.returned (.tuple #[])∧(∃tv',Walking w' w0.heap.size B D (.slice p code.length cap) (casesL dep todo x.alts x.alts.length dv).1 tv' (casesL dep todo x.alts x.alts.length dv).2)∧Below w0.heap.size w w':=by
 obtain⟨p',cap',e,hs1,hcell⟩:=h.cod.open;obtain⟨rfl,-,rfl⟩:p=p'∧code.length=code.length∧cap=cap':=by simpa using e
 have hk:=h.hk;have hlen:=h.len;have hm:=h.hm;have hn:=h.hn;have hr:=h.room;have ex:code[k]=x:=by have:=h.hx;rw[List.getElem?_eq_getElem hk]at this;simpa using this
 obtain⟨b,o,ap,an,ac,rfl,x0,x1,x2,hA⟩:=hcell w0 (Below.refl _ _) k hk;have x0:=cell_keep h.below x0;have x1:=cell_keep h.below x1;have x2:=cell_keep h.below x2;rw[ex,h.op]at x0;rw[ex]at x1 hA;have c0:=h.walking.c0;have c1:=h.walking.c1;have dk:=h.walking.dc k (by omega);have ed:dep[k]=d:=by rw[←hd];simp[List.getD,show k<dep.length by omega]
 rw[ed]at dk;have lB:B<w.heap.size:=h.walking.lB;have lD:D<w.heap.size:=h.walking.lD;have lb:b<w.heap.size:=block_lt_of_cell x0;have nB:B≠w.heap.size:=by omega
 have nD:D≠w.heap.size:=by omega
 have nb:b≠w.heap.size:=by omega
 have hk1:(0:Int)≤(k:Int):=by omega
 have hk2:(k:Int)<(code.length:Int):=by omega
 have hk3:(k:Int)<(dep.length:Int):=by omega
 have hk4:(k:Int)<65536:=by omega
 have HW:Hid (Walking w w0.heap.size B D (.slice (some ⟨b,o,none⟩) code.length cap) dep tv todo):=h.walking;have HT:Hid (TabAt w):=h.tab.keep h.below;have h0:=h.below.size;subst hms;obtain⟨ap',ac',e2,hs2,hA2⟩:=hA.open;obtain⟨rfl,rfl,rfl⟩:ap=ap'∧an=x.alts.length∧ac=ac':=by simpa using e2
 have HAL:Hid (∀w',Below w0.heap.size w w'→AltsIn w' ap x.alts):=fun w' hb=>hA2 w' (h.below.trans hb);have HTO:Hid (∀j (hj:j<x.alts.length),∃t:Nat,x.alts[j].tto=t∧t<code.length):=by
  intro j hj;have h1:=h.nonneg.2 _ (List.getElem_mem hj);refine⟨x.alts[j].tto.toNat,by omega,h.next _ ?_⟩;have e18:x.op=17:=h.op;simp only[succs,e18];simp;exact⟨_,List.getElem_mem hj,rfl⟩
 have HR:Hid (∀j (hj:j<x.alts.length) (t:Nat),x.alts[j].tto=t→t<code.length→∀w1 tv1,Walking w1 w0.heap.size B D (.slice (some ⟨b,o,none⟩) code.length cap) (casesL dep todo x.alts j dv).1 tv1 (casesL dep todo x.alts j dv).2→w0.heap.size≤w1.heap.size→
  Calls Tryz.prog 153 #[.pointer (some ⟨B,0,none⟩),.int .i64 t,.int .i64 dv] w1 fun e w'=>e=.returned (.tuple #[])∧(∃tv',Walking w' w0.heap.size B D (.slice (some ⟨b,o,none⟩) code.length cap) (casesL dep todo x.alts (j+1) dv).1 tv' (casesL dep todo x.alts (j+1) dv).2)∧Below w0.heap.size w1 w'):=by
  intro j hj t et htl w1 tv1 hw1 hsz;rw[casesL_next _ _ _ _ _ hj,et,Int.toNat_natCast];have hl1:(casesL dep todo x.alts j dv).1.length=dep.length:=reachAll_len _ _ _;have hl2:(casesL dep todo x.alts j dv).2.length≤todo.length+j:=by
   have:=reachAll_todo ((x.alts.take j).map fun a=>a.tto.toNat) dv (dep,todo);simp only[List.length_map,List.length_take]at this;unfold casesL;omega
  exact reach_any w0.heap.size B D _ _ tv1 _ t dv w1 hw1 (by omega) (by omega) (by omega) hsz
 clear hcell hA hA2 e e2 h ex hd ed hlen hn hr;generalize x.a=a at*;generalize x.alts=alts at*;rcases h2 with⟨rfl,rfl⟩|⟨g1,g2,rfl⟩
 ·go_enter Tryz.func154,Tryz.ntmps154;go_wp2;go_region
  go_wp2;go_loopw [53] (fun i wr=>∃(j:Nat) (tv1:Value),j≤alts.length∧i=.int .i64 j∧Hid (Walking wr w0.heap.size B D (.slice (some ⟨b,o,none⟩) code.length cap) (casesL dep todo alts j (-2)).1 tv1 (casesL dep todo alts j (-2)).2)∧Below w0.heap.size w wr) (fun i _=>alts.length-(intOf i).toNat)
  case atStart=>exact⟨0,tv,Nat.zero_le _,rfl,HW.out.keep ((Below.refl _ _).alloc (Nat.le_refl _) _).drew,((Below.refl _ _).alloc h0 _).drew⟩
  case round=>
   obtain⟨j,tv1,hj,rfl,hwk,hbr⟩:=hrel;by_cases hlt:j<alts.length
   ·obtain⟨ab,ao,rfl,y0,y1⟩:=HAL.out _ hbr j hlt;obtain⟨t,et,htl⟩:=HTO.out j hlt;rw[et]at y1;have HRJ:Hid _:=HR.out j hlt t et htl;have hs3:=hbr.size;have hs4:w0.heap.size≤wr.heap.size:=by omega
    clear et;generalize alts[j].tag=tg at*;go_wp2_with (first|(go_at_call 153;refine(HRJ.out _ tv1 ?_ ?_).mono ?_;exact hwk.out.keep ((Below.refl _ _).alloc (Nat.le_refl _) _);(simp;omega);rintro e w3 ⟨rfl,⟨tv3,hw3⟩,hb3⟩))
    exact⟨⟨j+1,tv3,by omega,by go_num,hw3,(hbr.alloc hs4 _).trans hb3⟩,by simp[intOf];omega⟩
   ·go_wp2;go_end0
    obtain rfl:j=alts.length:=by omega
    exact⟨rfl,⟨tv1,hwk.out⟩,hbr⟩
 ·have HF:Hid (fitsV 17 a d=true):=g2;clear g2;go_enter Tryz.func154,Tryz.ntmps154;go_wp2;go_region
  go_wp2_with (first|(go_at_call 155;refine(fits_tab _ _ d _ _ _ _ hm ?_).mono ?_;exact HT.out.keep ((Below.refl _ _).alloc (Nat.le_refl _) _).drew;rintro e w1 ⟨he,hb1⟩;rw[HF.out]at he;subst he;obtain⟨z0,z1⟩:=bcell hb1;have hz1:w.heap.size<w1.heap.size:=(by have:=hb1.size;simp[World.drew]at this;omega))|(go_at_call 194;refine(behind_tab _ _ d _ _ hm ?_).mono ?_;exact HT.out.keep (((Below.refl _ _).alloc (Nat.le_refl _) _).drew.trans (hb1.mono (by simp[World.drew])));rintro e w2 ⟨rfl,hb2⟩;obtain⟨z2,z3⟩:=bcell hb2))
  go_loopw [53] (fun i wr=>∃(j:Nat) (tv1:Value),j≤alts.length∧i=.int .i64 j∧Hid (Walking wr w0.heap.size B D (.slice (some ⟨b,o,none⟩) code.length cap) (casesL dep todo alts j (behV 17 a d)).1 tv1 (casesL dep todo alts j (behV 17 a d)).2)∧Below w0.heap.size w wr) (fun i _=>alts.length-(intOf i).toNat)
  case atStart=>
   have hbf:=(((Below.refl _ _).alloc (Nat.le_refl _) _).drew.trans (hb1.mono (by simp[World.drew]))).trans (hb2.mono (by omega));exact⟨0,tv,Nat.zero_le _,rfl,HW.out.keep hbf,hbf.mono h0⟩
  case round=>
   obtain⟨j,tv1,hj,rfl,hwk,hbr⟩:=hrel;by_cases hlt:j<alts.length
   ·obtain⟨ab,ao,rfl,y0,y1⟩:=HAL.out _ hbr j hlt;obtain⟨t,et,htl⟩:=HTO.out j hlt;rw[et]at y1;have HRJ:Hid _:=HR.out j hlt t et htl;have hs3:=hbr.size;have hs4:w0.heap.size≤wr.heap.size:=by omega
    clear et;generalize alts[j].tag=tg at*;go_wp2_with (first|(go_at_call 153;refine(HRJ.out _ tv1 ?_ ?_).mono ?_;exact hwk.out.keep ((Below.refl _ _).alloc (Nat.le_refl _) _);(simp;omega);rintro e w3 ⟨rfl,⟨tv3,hw3⟩,hb3⟩))
    exact⟨⟨j+1,tv3,by omega,by go_num,hw3,(hbr.alloc hs4 _).trans hb3⟩,by simp[intOf];omega⟩
   ·go_wp2;go_end0
    obtain rfl:j=alts.length:=by omega
    exact⟨rfl,⟨tv1,hwk.out⟩,hbr⟩
end Go.Proofs.YtglihimiidiacaaGreatDoor
namespace Go.Proofs.YtglihimiidiacaaGreatDoor
open Go.RowKit
def firstBad(p:LIns→Nat→Bool)(l:List LIns):Option Nat:=(List.range l.length).find? fun i=>match l[i]? with|some x=>p x i|none=>false
theorem firstBad_some(p:LIns→Nat→Bool)(l:List LIns)(k:Nat)(hk:k<l.length)(hp:p l[k] k=true)(hb:∀j (h:j<l.length),j<k→p l[j] j=false):firstBad p l=some k:=by
 unfold firstBad;rw[List.find?_range_eq_some];refine⟨by simp[hk,hp],by simpa using hk,fun j hj=>?_⟩;have hj':j<l.length:=by omega
 simp[hj',hb j hj' hj]
theorem firstBad_none(p:LIns→Nat→Bool)(l:List LIns)(hb:∀j (h:j<l.length),p l[j] j=false):firstBad p l=none:=by
 unfold firstBad;rw[List.find?_eq_none];intro j hj;have hj':j<l.length:=by simpa using hj
 simp[hj',hb j hj']
theorem firstBad_next(p:LIns→Nat→Bool)(l:List LIns)(k:Nat)(hk:k<l.length)(ha:∀j (h:j<l.length),j<k→p l[j] j=false)(hp:p l[k] k=false):∀j (h:j<l.length),j<k+1→p l[j] j=false:=by
 intro j h hj;by_cases e:j=k
 ·subst e;exact hp
 ·exact ha j h (by omega)
def pairOf:Option Nat→Value
 |some k=>.tuple #[.int .i64 (k:Int),.bool true]
 |none=>.tuple #[.int .i64 0,.bool false]
def badIdx(known:Int)(x:LIns)(_:Nat):Bool:=(x.op==1) && decide (known≤x.a)
theorem ret_val{a b:Value}(h:a=b):Ending.returned a=.returned b:=by rw[h]
set_option maxHeartbeats 1000000 in
theorem wildIndex_any(v:Value)(code:List LIns)(known:Int)(w:World)(hc:CodeAt w v code):
 Calls Tryz.prog 103 #[v,.int .i64 known] w fun e w'=>e=.returned (pairOf (firstBad (badIdx known) code))∧Below w.heap.size w w':=by
 obtain⟨p,cap,rfl,hs1,hcell⟩:=hc.open;have HC:Hid (∀w',Below w.heap.size w w'→CodeIn w' p code):=hcell;clear hcell hc;go_enter Tryz.func103,Tryz.ntmps103;go_wp2;go_loopw [10] (fun i wr=>∃k:Nat,k≤code.length∧i=.int .i64 k∧Hid (∀j (h:j<code.length),j<k→badIdx known code[j] j=false)∧Below w.heap.size w wr) (fun i _=>code.length-(intOf i).toNat)
 case atStart=>exact⟨0,Nat.zero_le _,rfl,fun _ _ h=>absurd h (by omega),Below.refl _ _⟩
 case round=>
  obtain⟨k,hk,rfl,ha,hb⟩:=hrel;by_cases hlt:k<code.length
  ·obtain⟨b,o,ap,an,ac,rfl,c0,c1,c2,_⟩:=HC.out _ hb k hlt;have HB:Hid (badIdx known code[k] k=((code[k].op==1) && decide (known≤code[k].a))):=rfl;generalize code[k].op=op at*;generalize code[k].a=a at*;go_wp2;any_goals
    go_ret2
    exact⟨by rw[firstBad_some _ _ k hlt (by rw[HB.out];simp_all) ha.out];rfl,hb.alloc hb.size _⟩
   all_goals exact⟨⟨k+1,by omega,by go_num,firstBad_next _ _ k hlt ha.out (by rw[HB.out];simp_all),hb.alloc hb.size _⟩,by simp[intOf];omega⟩
  ·go_wp2;go_ret2
   exact⟨by rw[firstBad_none _ _ (fun j h=>ha.out j h (by omega))];rfl,hb⟩
end Go.Proofs.YtglihimiidiacaaGreatDoor
