import Derived.Test.YtahmgjjgikgpoaaGreatDoorRoomDefsJ
import Derived.RegionTactic
import Derived.ChangeAlike
set_option maxHeartbeats 4000000
namespace Go.Proofs.YtahmgjjgikgpoaaGreatDoor
open Go.RowKit
def outD(x:LIns)(d:Int):Option Int:=if d=-2 then some (-2) else if fitsV x.op.toNat x.a d then some (behV x.op.toNat x.a d) else none
def succs(x:LIns)(k:Nat):List Nat:=if x.op=19∨x.op=20 then [] else if x.op=18 then [x.a.toNat] else if x.op=17 then x.alts.map λa=>a.to.toNat else [k+1]
def reachAll(s:List Int×List Nat)(l:List Nat)(d:Int):List Int×List Nat:=l.foldl (λs k=>reachL s.1 s.2 k d) s
def leaveL(x:LIns)(dep:List Int)(todo:List Nat)(k:Nat):List Int×List Nat:=
 match outD x (dep.getD k 0) with
 |none=>(dep,todo)
 |some d=>reachAll (dep,todo) (succs x k) d
theorem reachL_len(dep:List Int)(todo:List Nat)(k:Nat)(d:Int):(reachL dep todo k d).1.length=dep.length:=by unfold reachL;split<;>simp
theorem reachL_todo(dep:List Int)(todo:List Nat)(k:Nat)(d:Int):(reachL dep todo k d).2.length<=todo.length+1:=by unfold reachL;split<;>simp
theorem reachAll_len(l:List Nat)(d:Int):∀s:List Int×List Nat,(reachAll s l d).1.length=s.1.length:=by
 induction l with
 |nil=>intro s;rfl
 |cons k r ih=>intro s;show(reachAll (reachL s.1 s.2 k d) r d).1.length=_;rw[ih,reachL_len]
theorem reachAll_todo(l:List Nat)(d:Int):∀s:List Int×List Nat,(reachAll s l d).2.length<=s.2.length+l.length:=by
 induction l with
 |nil=>intro s;simp[reachAll]
 |cons k r ih=>
  intro s;have h1:=ih (reachL s.1 s.2 k d);have h2:=reachL_todo s.1 s.2 k d;show(reachAll (reachL s.1 s.2 k d) r d).2.length<=_;simp only[List.length_cons];omega
theorem reachAll_snoc(s:List Int×List Nat)(l:List Nat)(k:Nat)(d:Int):reachAll s (l++[k]) d=reachL (reachAll s l d).1 (reachAll s l d).2 k d:=by
 simp[reachAll]
theorem Walking.keep{w w':World}{base B D:Nat}{cv:Value}{dep:List Int}{tv:Value}{todo:List Nat}(h:Walking w base B D cv dep tv todo)(hb:Below w.heap.size w w'):Walking w' base B D cv dep tv todo:=by
 have k:=bcell hb;have own:w'.ownsRow base 3 1 tv todo.length (todo.map λa:Nat=>Value.int .i64 (a:Int)):=by
  refine⟨h.own.1,?_⟩;rcases h.own.2 with e|⟨g,cap,cur,e,hg,hh,r⟩
  ·exact Or.inl e
  ·refine Or.inr ⟨g,cap,cur,e,hg,?_,r⟩;have hlt:g<w.heap.size:=by
    rcases Nat.lt_or_ge g w.heap.size with hlt|hge
    ·exact hlt
    ·rw[Array.getElem?_eq_none hge]at hh;cases hh
   rw[hb.block g hlt];exact hh
 exact {hB:=h.hB,hD:=h.hD,ne:=h.ne,lB:=Nat.lt_of_lt_of_le h.lB hb.size,lD:=Nat.lt_of_lt_of_le h.lD hb.size,c0:=cell_keep hb h.c0,c1:=cell_keep hb h.c1,c2:=cell_keep hb h.c2,f2:=by rw[k.2 _ _ h.lB];exact h.f2,dc:=λi hi=>cell_keep hb (h.dc i hi),df:=λi hi=>by rw[k.2 _ _ h.lD];exact h.df i hi,own:=own,aB:=h.aB,aD:=h.aD}
structure Left (w0 w:World) (B D:Nat) (p:Option Addr) (cap:Nat) (code:List LIns) (dep:List Int) (tv:Value) (todo:List Nat) (k:Nat) (x:LIns) (m:Nat):Prop where
 walking:Walking w w0.heap.size B D (.slice p code.length cap) dep tv todo
 cod:CodeAt w0 (.slice p code.length cap) code
 tab:TabAt w0
 below:Below w0.heap.size w0 w
 len:code.length=dep.length
 hk:k<code.length
 hx:code[k]?=some x
 hn:dep.length<=65535
 hm:m<21
 op:x.op=m
 next:∀s∈succs x k,s<code.length
 nonneg:(m=18->0<=x.a)∧∀al∈x.alts,0<=al.to
 room:todo.length+x.alts.length+1<=200000
theorem leave_stop(w0 w:World)(B D:Nat)(p:Option Addr)(cap:Nat)(code:List LIns)(dep:List Int)(tv:Value)(todo:List Nat)(k:Nat)(x:LIns)(m:Nat)(h:Left w0 w B D p cap code dep tv todo k x m)(d:Int)(hd:dep.getD k 0=d)(h2:(d !=-2)=true)(hf:fitsV m x.a d=false):
 Calls Tryz.prog 96 #[.pointer (some ⟨B,0,none⟩),.int .i64 k] w λe w'=>e=.returned (.tuple #[])∧(∃tv',Walking w' w0.heap.size B D (.slice p code.length cap) dep tv' todo)∧Below w0.heap.size w w':=by
 obtain⟨p',cap',e,hs1,hcell⟩:=h.cod.open;obtain⟨rfl,-,rfl⟩:p=p'∧code.length=code.length∧cap=cap':=by simpa using e
 have hk:=h.hk;have hlen:=h.len;have hm:=h.hm;have ex:code[k]=x:=by have:=h.hx;rw[List.getElem?_eq_getElem hk]at this;simpa using this
 obtain⟨b,o,ap,an,ac,rfl,x0,x1,x2,hA⟩:=hcell w h.below k hk;rw[ex,h.op]at x0;rw[ex]at x1;have c0:=h.walking.c0;have c1:=h.walking.c1;have dk:=h.walking.dc k (by omega);have ed:dep[k]=d:=by rw[<-hd];simp[List.getD,show k<dep.length by omega]
 rw[ed]at dk;have lB:B<w.heap.size:=h.walking.lB;have lD:D<w.heap.size:=h.walking.lD;have lb:b<w.heap.size:=block_lt_of_cell x0;have nB:B≠w.heap.size:=by omega
 have nD:D≠w.heap.size:=by omega
 have nb:b≠w.heap.size:=by omega
 have hk1:(0:Int)<=(k:Int):=by omega
 have hk2:(k:Int)<(code.length:Int):=by omega
 have hk3:(k:Int)<(dep.length:Int):=by omega
 have HF:Hid (fitsV m x.a d=false):=hf;have HW:Hid (Walking w w0.heap.size B D (.slice (some ⟨b,o,none⟩) code.length cap) dep tv todo):=h.walking;have HT:Hid (TabAt w):=h.tab.keep h.below;have h0:=h.below.size;clear hcell hA e h ex hd ed hf hlen;generalize x.a=a at*;go_enter Tryz.func96,Tryz.ntmps96;go_wp2;go_region
 go_wp2_with (first|(go_at_call 97;refine(fits_tab m a d ap an ac _ hm ?_).mono ?_;exact HT.out.keep ((Below.refl _ _).alloc (Nat.le_refl _) _).drew;rintro e w1 ⟨he,hb1⟩;rw[HF.out]at he;subst he))
 have hb2:=(((Below.refl _ _).alloc (Nat.le_refl _) _).drew).trans (hb1.mono (by simp[World.drew]));exact bodyPost_ret (v:=.tuple #[]) (by simp[results,Tryz.results96,go_sem]) rfl ⟨rfl,⟨tv,HW.out.keep hb2⟩,hb2.mono h0⟩
theorem leave_one(w0 w:World)(B D:Nat)(p:Option Addr)(cap:Nat)(code:List LIns)(dep:List Int)(tv:Value)(todo:List Nat)(k:Nat)(x:LIns)(m:Nat)(h:Left w0 w B D p cap code dep tv todo k x m)(d dv:Int)(hd:dep.getD k 0=d)
 (h2:d=-2∧dv=-2∨(d !=-2)=true∧fitsV m x.a d=true∧dv=behV m x.a d) (s:Nat) (hs:s<code.length) (hms:m=18∧x.a=s∨((m:Int)==19)=false∧((m:Int)==20)=false∧((m:Int)==18)=false∧((m:Int)==17)=false∧s=k+1):
 Calls Tryz.prog 96 #[.pointer (some ⟨B,0,none⟩),.int .i64 k] w λe w'=>e=.returned (.tuple #[])∧(∃tv',Walking w' w0.heap.size B D (.slice p code.length cap) (reachL dep todo s dv).1 tv' (reachL dep todo s dv).2)∧Below w0.heap.size w w':=by
 obtain⟨p',cap',e,hs1,hcell⟩:=h.cod.open;obtain⟨rfl,-,rfl⟩:p=p'∧code.length=code.length∧cap=cap':=by simpa using e
 have hk:=h.hk;have hlen:=h.len;have hm:=h.hm;have hn:=h.hn;have hr:=h.room;have ex:code[k]=x:=by have:=h.hx;rw[List.getElem?_eq_getElem hk]at this;simpa using this
 obtain⟨b,o,ap,an,ac,rfl,x0,x1,x2,hA⟩:=hcell w h.below k hk;rw[ex,h.op]at x0;rw[ex]at x1;have c0:=h.walking.c0;have c1:=h.walking.c1;have dk:=h.walking.dc k (by omega);have ed:dep[k]=d:=by rw[<-hd];simp[List.getD,show k<dep.length by omega]
 rw[ed]at dk;have lB:B<w.heap.size:=h.walking.lB;have lD:D<w.heap.size:=h.walking.lD;have lb:b<w.heap.size:=block_lt_of_cell x0;have nB:B≠w.heap.size:=by omega
 have nD:D≠w.heap.size:=by omega
 have nb:b≠w.heap.size:=by omega
 have hk1:(0:Int)<=(k:Int):=by omega
 have hk2:(k:Int)<(code.length:Int):=by omega
 have hk3:(k:Int)<(dep.length:Int):=by omega
 have hk4:(k:Int)<65536:=by omega
 have HW:Hid (Walking w w0.heap.size B D (.slice (some ⟨b,o,none⟩) code.length cap) dep tv todo):=h.walking;have HT:Hid (TabAt w):=h.tab.keep h.below;have h0:=h.below.size;have HR:Hid (∀w1,Below w.heap.size w w1->Calls Tryz.prog 95 #[.pointer (some ⟨B,0,none⟩),.int .i64 s,.int .i64 dv] w1 λe w'=>e=.returned (.tuple #[])∧(∃tv',Walking w' w0.heap.size B D (.slice (some ⟨b,o,none⟩) code.length cap) (reachL dep todo s dv).1 tv' (reachL dep todo s dv).2)∧Below w0.heap.size w1 w'):=
  λw1 hb=>reach_any w0.heap.size B D _ dep tv todo s dv w1 (HW.out.keep hb) (by omega) hn (by omega) (Nat.le_trans h0 hb.size)
 clear hcell hA e h ex hd ed hlen hn hr;generalize x.a=a at*;generalize (reachL dep todo s dv)=rl at*;rcases hms with⟨rfl,rfl⟩|⟨t1,t2,t3,t4,rfl⟩
 ·rcases h2 with⟨rfl,rfl⟩|⟨g1,g2,rfl⟩
  ·skip
   go_enter Tryz.func96,Tryz.ntmps96;go_wp2;go_region
   go_wp2_with (first|(go_at_call 95;refine(HR.out _ ?_).mono ?_;exact((Below.refl _ _).alloc (Nat.le_refl _) _).drew;rintro e w3 ⟨rfl,hw3,hb3⟩))
   go_end0
   exact⟨rfl,hw3,(((Below.refl _ _).alloc h0 _).drew).trans hb3⟩
  ·have HF:Hid (fitsV 18 (s:Int) d=true):=g2;clear g2;go_enter Tryz.func96,Tryz.ntmps96;go_wp2;go_region
   go_wp2_with (first|(go_at_call 97;refine(fits_tab _ _ d ap an ac _ hm ?_).mono ?_;exact HT.out.keep ((Below.refl _ _).alloc (Nat.le_refl _) _).drew;rintro e w1 ⟨he,hb1⟩;rw[HF.out]at he;subst he;obtain⟨z0,z1⟩:=bcell hb1;have hz1:w.heap.size<w1.heap.size:=(by have:=hb1.size;simp[World.drew]at this;omega))|(go_at_call 123;refine(behind_tab _ _ d _ _ hm ?_).mono ?_;exact HT.out.keep (((Below.refl _ _).alloc (Nat.le_refl _) _).drew.trans (hb1.mono (by simp[World.drew])));rintro e w2 ⟨rfl,hb2⟩;obtain⟨z2,z3⟩:=bcell hb2)|(go_at_call 95;refine(HR.out _ ?_).mono ?_;exact(((Below.refl _ _).alloc (Nat.le_refl _) _).drew.trans (hb1.mono (by simp[World.drew]))).trans (hb2.mono (by omega));rintro e w3 ⟨rfl,hw3,hb3⟩))
   go_end0
   exact⟨rfl,hw3,((((Below.refl _ _).alloc h0 _).drew.trans (hb1.mono (by simp[World.drew];omega))).trans (hb2.mono (by omega))).trans hb3⟩
 ·rcases h2 with⟨rfl,rfl⟩|⟨g1,g2,rfl⟩
  ·skip
   go_enter Tryz.func96,Tryz.ntmps96;go_wp2;go_region
   go_wp2_with (first|(go_at_call 95;refine(HR.out _ ?_).mono ?_;exact((Below.refl _ _).alloc (Nat.le_refl _) _).drew;rintro e w3 ⟨rfl,hw3,hb3⟩))
   go_end0
   exact⟨rfl,hw3,(((Below.refl _ _).alloc h0 _).drew).trans hb3⟩
  ·have HF:Hid (fitsV m a d=true):=g2;clear g2;go_enter Tryz.func96,Tryz.ntmps96;go_wp2;go_region
   go_wp2_with (first|(go_at_call 97;refine(fits_tab _ _ d ap an ac _ hm ?_).mono ?_;exact HT.out.keep ((Below.refl _ _).alloc (Nat.le_refl _) _).drew;rintro e w1 ⟨he,hb1⟩;rw[HF.out]at he;subst he;obtain⟨z0,z1⟩:=bcell hb1;have hz1:w.heap.size<w1.heap.size:=(by have:=hb1.size;simp[World.drew]at this;omega))|(go_at_call 123;refine(behind_tab _ _ d _ _ hm ?_).mono ?_;exact HT.out.keep (((Below.refl _ _).alloc (Nat.le_refl _) _).drew.trans (hb1.mono (by simp[World.drew])));rintro e w2 ⟨rfl,hb2⟩;obtain⟨z2,z3⟩:=bcell hb2)|(go_at_call 95;refine(HR.out _ ?_).mono ?_;exact(((Below.refl _ _).alloc (Nat.le_refl _) _).drew.trans (hb1.mono (by simp[World.drew]))).trans (hb2.mono (by omega));rintro e w3 ⟨rfl,hw3,hb3⟩))
   go_end0
   exact⟨rfl,hw3,((((Below.refl _ _).alloc h0 _).drew.trans (hb1.mono (by simp[World.drew];omega))).trans (hb2.mono (by omega))).trans hb3⟩
def leI(a b:Int):Prop:=a=-1∨a=b∨b=-2
theorem leI.refl(a:Int):leI a a:=Or.inr (Or.inl rfl)
theorem leI.trans{a b c:Int}(h1:leI a b)(h2:leI b c):leI a c:=by unfold leI at*;omega
theorem leI.antisymm{a b:Int}(h1:leI a b)(h2:leI b a):a=b:=by unfold leI at*;omega
theorem leI.two(a:Int):leI a (-2):=Or.inr (Or.inr rfl)
theorem leI.bot(a:Int):leI (-1) a:=Or.inl rfl
def outI(x:LIns)(d:Int):Int:=if d=-1 then -1 else (outD x d).getD (-1)
theorem outI_mono(x:LIns){a b:Int}(h:leI a b):leI (outI x a) (outI x b):=by
 rcases h with rfl|rfl|rfl
 ·have:outI x (-1)=-1:=by simp[outI]
  rw[this];exact leI.bot _
 ·exact leI.refl _
 ·have:outI x (-2)=-2:=by simp[outI,outD]
  rw[this];exact leI.two _
structure PostFix (code:List LIns) (d0:Int) (g:List Int):Prop where
 len:g.length=code.length
 start:leI d0 (g.getD 0 0)
 step:∀k (hk:k<code.length),∀s∈succs code[k] k,leI (outI code[k] (g.getD k 0)) (g.getD s 0)
structure Least (code:List LIns) (d0:Int) (dep:List Int):Prop where
 post:PostFix code d0 dep
 least:∀g,PostFix code d0 g->∀i,i<code.length->leI (dep.getD i 0) (g.getD i 0)
theorem Least.unique{code:List LIns}{d0:Int}{a b:List Int}(ha:Least code d0 a)(hb:Least code d0 b):a=b:=by
 apply List.ext_getElem (by rw[ha.post.len,hb.post.len]);intro i h1 h2;have hi:i<code.length:=by rw[<-ha.post.len];exact h1
 have:=(ha.least b hb.post i hi).antisymm (hb.least a ha.post i hi);simpa[List.getD,h1,h2]using this
def rk(d:Int):Nat:=if d=-1 then 0 else if d=-2 then 2 else 1
def ranks(dep:List Int):Nat:=(dep.map rk).sum
theorem ranks_set:∀(dep:List Int) (k:Nat) (v:Int) (_:k<dep.length),ranks (dep.set k v)+rk (dep.getD k 0)=ranks dep+rk v
 |a::r,0,v,_=>by simp[ranks];omega
 |a::r,k+1,v,h=>by
  have:=ranks_set r k v (by simpa using h);simp[ranks]at*;omega
theorem rk_le(d:Int):rk d<=2:=by unfold rk;split<;>(try split)<;>omega
theorem ranks_le:∀dep:List Int,ranks dep<=2*dep.length
 |[]=>by simp[ranks]
 |a::r=>by
  have:=ranks_le r;have:=rk_le a;simp[ranks]at*;omega
theorem getD_set(l:List Int)(k i:Nat)(v:Int)(hk:k<l.length):(l.set k v).getD i 0=if i=k then v else l.getD i 0:=by
 by_cases e:i=k
 ·subst e;simp[List.getD,hk]
 ·rw[if_neg e];simp[List.getD,Ne.symm e]
theorem reachL_spec(dep:List Int)(todo:List Nat)(k:Nat)(d:Int)(hk:k<dep.length)(hd:d≠-1):
 (∀i,leI (dep.getD i 0) ((reachL dep todo k d).1.getD i 0))∧leI d ((reachL dep todo k d).1.getD k 0)∧
 (∀i,i∉(reachL dep todo k d).2->(reachL dep todo k d).1.getD i 0=dep.getD i 0)∧(∀i∈todo,i∈(reachL dep todo k d).2)∧(∀i∈(reachL dep todo k d).2,i∈todo∨i=k)∧
 (∀g:List Int,(∀i,leI (dep.getD i 0) (g.getD i 0))->leI d (g.getD k 0)->∀i,leI ((reachL dep todo k d).1.getD i 0) (g.getD i 0))∧
 ranks (reachL dep todo k d).1+todo.length≥ranks dep+(reachL dep todo k d).2.length∧todo.length<=(reachL dep todo k d).2.length:=by
 unfold reachL;by_cases h:dep.getD k 0=d∨dep.getD k 0=-2
 ·rw[if_pos h];refine⟨λi=>leI.refl _,?_,λ_ _=>rfl,λ_ h=>h,λ_ h=>Or.inl h,λg hg _=>hg,by simp⟩;show leI d (dep.getD k 0);rcases h with h|h
  ·rw[h];exact leI.refl _
  ·rw[h];exact leI.two _
 ·rw[if_neg h];have hr:=ranks_set dep k (if dep.getD k 0=-1 then d else -2) hk;refine⟨λi=>?_,?_,λi hi=>?_,λi hi=>by simp[hi],λi hi=>by simpa using hi,λg hg hgk i=>?_,?_⟩
  ·show leI _ ((dep.set k _).getD i 0);rw[getD_set _ _ _ _ hk];by_cases e:i=k
   ·subst e;rw[if_pos rfl];by_cases e2:dep.getD i 0=-1
    ·rw[e2];exact leI.bot _
    ·rw[if_neg e2];exact leI.two _
   ·rw[if_neg e];exact leI.refl _
  ·show leI d ((dep.set k _).getD k 0);rw[getD_set _ _ _ _ hk,if_pos rfl];by_cases e2:dep.getD k 0=-1
   ·rw[if_pos e2];exact leI.refl _
   ·rw[if_neg e2];exact leI.two _
  ·show(dep.set k _).getD i 0=_;rw[getD_set _ _ _ _ hk];have:i≠k:=λe=>hi (by simp[e]);rw[if_neg this]
  ·show leI ((dep.set k _).getD i 0) _;rw[getD_set _ _ _ _ hk];by_cases e:i=k
   ·subst e;rw[if_pos rfl];have h1:=hg i;by_cases e2:dep.getD i 0=-1
    ·rw[if_pos e2];exact hgk
    ·rw[if_neg e2];unfold leI at*;omega
   ·rw[if_neg e];exact hg i
  ·show ranks (dep.set k _)+todo.length≥ranks dep+(todo++[k]).length∧todo.length<=(todo++[k]).length;have h1:rk (dep.getD k 0)+1<=rk (if dep.getD k 0=-1 then d else -2):=by
    by_cases e2:dep.getD k 0=-1
    ·rw[if_pos e2];simp only[rk,e2];split<;>(try split)<;>simp_all
    ·rw[if_neg e2];simp only[rk];rw[if_neg e2,if_neg (by omega:¬dep.getD k 0=-2)];simp
   simp only[List.length_append,List.length_singleton];omega
theorem reachAll_spec(d:Int)(hd:d≠-1):∀(l:List Nat) (dep:List Int) (todo:List Nat),(∀k∈l,k<dep.length)->
 (∀i,leI (dep.getD i 0) ((reachAll (dep,todo) l d).1.getD i 0))∧(∀k∈l,leI d ((reachAll (dep,todo) l d).1.getD k 0))∧
 (∀i,i∉(reachAll (dep,todo) l d).2->(reachAll (dep,todo) l d).1.getD i 0=dep.getD i 0)∧(∀i∈todo,i∈(reachAll (dep,todo) l d).2)∧(∀i∈(reachAll (dep,todo) l d).2,i∈todo∨i∈l)∧
 (∀g:List Int,(∀i,leI (dep.getD i 0) (g.getD i 0))->(∀k∈l,leI d (g.getD k 0))->∀i,leI ((reachAll (dep,todo) l d).1.getD i 0) (g.getD i 0))∧
 ranks (reachAll (dep,todo) l d).1+todo.length≥ranks dep+(reachAll (dep,todo) l d).2.length∧todo.length<=(reachAll (dep,todo) l d).2.length:=by
 intro l;induction l with
 |nil=>intro dep todo _;exact⟨λi=>leI.refl _,(by intro k hk;cases hk),λ_ _=>rfl,λ_ h=>h,λ_ h=>Or.inl h,λg hg _=>hg,Nat.le_refl _,Nat.le_refl _⟩
 |cons k r ih=>
  intro dep todo hl;have e:reachAll (dep,todo) (k::r) d=reachAll ((reachL dep todo k d).1,(reachL dep todo k d).2) r d:=rfl;rw[e];obtain⟨a1,a2,a3,a4,a5,a6,a7⟩:=reachL_spec dep todo k d (hl k (by simp)) hd;obtain⟨b1,b2,b3,b4,b5,b6,b7⟩:=ih (reachL dep todo k d).1 (reachL dep todo k d).2 (λj hj=>by rw[reachL_len];exact hl j (by simp[hj]));refine⟨λi=>(a1 i).trans (b1 i),λj hj=>?_,λi hi=>?_,λi hi=>b4 i (a4 i hi),λi hi=>?_,λg hg hgk=>b6 g (a6 g hg (hgk k (by simp))) (λj hj=>hgk j (by simp[hj])),by omega⟩
  ·rcases List.mem_cons.1 hj with rfl|hj
   ·exact a2.trans (b1 _)
   ·exact b2 j hj
  ·rw[b3 i hi,a3 i (λh=>hi (b4 i h))]
  ·rcases b5 i hi with h|h
   ·rcases a5 i h with h|h
    ·exact Or.inl h
    ·exact Or.inr (by simp[h])
   ·exact Or.inr (by simp[h])
structure Inv (code:List LIns) (d0:Int) (dep:List Int) (todo:List Nat):Prop where
 len:dep.length=code.length
 small:∀i∈todo,i<code.length
 start:leI d0 (dep.getD 0 0)
 below:∀g,PostFix code d0 g->∀i,leI (dep.getD i 0) (g.getD i 0)
 done:∀k (hk:k<code.length),k∉todo->∀s∈succs code[k] k,leI (outI code[k] (dep.getD k 0)) (dep.getD s 0)
 rank:todo.length<=ranks dep
 hot:∀i∈todo,dep.getD i 0≠-1
theorem Inv.least{code:List LIns}{d0:Int}{dep:List Int}(h:Inv code d0 dep []):Least code d0 dep:=
 ⟨⟨h.len,h.start,λk hk=>h.done k hk (by simp)⟩,λg hg i _=>h.below g hg i⟩
theorem Inv.next{code:List LIns}{d0:Int}{dep:List Int}{todo:List Nat}{k:Nat}(hk:k<code.length)(h:Inv code d0 dep (todo++[k]))(hs:∀s∈succs code[k] k,s<code.length)(hne:∀d,dep.getD k 0≠-1->outD code[k] (dep.getD k 0)=some d->d≠-1):
 Inv code d0 (leaveL code[k] dep todo k).1 (leaveL code[k] dep todo k).2∧2*(2*code.length-ranks (leaveL code[k] dep todo k).1)+(leaveL code[k] dep todo k).2.length<2*(2*code.length-ranks dep)+(todo++[k]).length:=by
 have hr:dep.getD k 0≠-1:=h.hot k (by simp);unfold leaveL;cases ho:outD code[k] (dep.getD k 0) with
 |none=>
  refine⟨⟨h.len,λi hi=>h.small i (by simp[show i∈todo from hi]),h.start,h.below,λj hj hjt=>?_,by have:=h.rank;simp at this ⊢;omega,λi hi=>h.hot i (by simp[show i∈todo from hi])⟩,by simp⟩;by_cases e:j=k
  ·subst e;intro s _;have:outI code[j] (dep.getD j 0)=-1:=by unfold outI;rw[ho];split<;>rfl
   show leI (outI code[j] (dep.getD j 0)) _;rw[this];exact leI.bot _
  ·exact h.done j hj (by simp;exact⟨hjt,e⟩)
 |some dv=>
  have hdv:=hne dv hr ho;have hout:outI code[k] (dep.getD k 0)=dv:=by simp only[outI,ho];rw[if_neg hr];rfl
  obtain⟨a1,a2,a3,a4,a5,a6,a7⟩:=reachAll_spec dv hdv (succs code[k] k) dep todo (λs hs'=>by rw[h.len];exact hs s hs');have hl:(reachAll (dep,todo) (succs code[k] k) dv).1.length=dep.length:=reachAll_len (succs code[k] k) dv (dep,todo);refine⟨⟨by simp only[hl];exact h.len,λi hi=>?_,h.start.trans (a1 0),λg hg=>a6 g (h.below g hg) (λs hs'=>?_),λj hj hjt s hs'=>?_,?_,λi hi=>?_⟩,?_⟩
  ·rcases a5 i hi with h1|h1
   ·exact h.small i (by simp[h1])
   ·exact hs i h1
  ·have:=hg.step k hk s hs';exact(by rw[<-hout];exact outI_mono _ (h.below g hg k):leI dv (outI code[k] (g.getD k 0))).trans this
  ·show leI (outI code[j] ((reachAll (dep,todo) (succs code[k] k) dv).1.getD j 0)) _;rw[a3 j hjt];by_cases e:j=k
   ·subst e;rw[hout];exact a2 s hs'
   ·exact(h.done j hj (by simp;exact⟨λhjt'=>hjt (a4 j hjt'),e⟩) s hs').trans (a1 s)
  ·show(reachAll (dep,todo) (succs code[k] k) dv).2.length<=ranks (reachAll (dep,todo) (succs code[k] k) dv).1;have:=h.rank;simp at this;omega
  ·show(reachAll (dep,todo) (succs code[k] k) dv).1.getD i 0≠-1;rcases a5 i hi with h1|h1
   ·have h2:=h.hot i (by simp[h1]);have h3:=a1 i;unfold leI at h3;omega
   ·have h3:=a2 i h1;unfold leI at h3;omega
  ·have h1:=ranks_le (reachAll (dep,todo) (succs code[k] k) dv).1;rw[hl]at h1;have h2:dep.length=code.length:=h.len;simp only[List.length_append,List.length_singleton];show 2*(2*code.length-ranks (reachAll (dep,todo) (succs code[k] k) dv).1)+(reachAll (dep,todo) (succs code[k] k) dv).2.length<_;have h3:=ranks_le dep;omega
theorem Inv.first{code:List LIns}{d0:Int}{dep:List Int}(hd:0<=d0)(hl:dep.length=code.length)(hp:0<code.length)(ha:∀i,i<dep.length->dep.getD i 0=-1):Inv code d0 (reachL dep [] 0 d0).1 (reachL dep [] 0 d0).2:=by
 have h0:dep.getD 0 0=-1:=ha 0 (by omega);have e:reachL dep [] 0 d0=(dep.set 0 d0,[0]):=by unfold reachL;rw[h0,if_neg (by omega),if_pos rfl];rfl
 have hout:∀i,i≠0->i<code.length->(dep.set 0 d0).getD i 0=-1:=λi hi hl'=>by rw[getD_set _ _ _ _ (by omega),if_neg hi];exact ha i (by omega)
 rw[e];refine⟨by simp[hl],by simp;omega,?_,λg hg i=>?_,λk hk hkt s hs=>?_,?_,?_⟩
 ·show leI d0 ((dep.set 0 d0).getD 0 0);rw[getD_set _ _ _ _ (by omega),if_pos rfl];exact leI.refl _
 ·show leI ((dep.set 0 d0).getD i 0) _;by_cases h:i=0
  ·subst h;rw[getD_set _ _ _ _ (by omega),if_pos rfl];exact hg.start
  ·by_cases h2:i<code.length
   ·rw[hout i h h2];exact leI.bot _
   ·have e1:(dep.set 0 d0).getD i 0=0:=by simp[List.getD,show dep.length<=i by omega]
    have e2:g.getD i 0=0:=by have:=hg.len;simp[List.getD,show g.length<=i by omega]
    rw[e1,e2];exact leI.refl _
 ·have hk0:k≠0:=by simpa using hkt
  show leI (outI code[k] ((dep.set 0 d0).getD k 0)) _;rw[hout k hk0 hk];have:outI code[k] (-1)=-1:=by simp[outI]
  rw[this];exact leI.bot _
 ·show 1<=ranks (dep.set 0 d0);have:=ranks_set dep 0 d0 (by omega);rw[h0]at this;have h3:rk (-1)=0:=rfl;have h4:rk d0=1:=by unfold rk;rw[if_neg (by omega),if_neg (by omega)]
  omega
 ·intro i hi;have:i=0:=by simpa using hi
  subst this;show(dep.set 0 d0).getD 0 0≠-1;rw[getD_set _ _ _ _ (by omega),if_pos rfl];omega
end Go.Proofs.YtahmgjjgikgpoaaGreatDoor
