import Derived.Test.YtahmgjjgikgpoaaGreatDoorTfJ
import Derived.Test.YtahmgjjgikgpoaaGreatDoorRlJ
namespace Go.Proofs.YtahmgjjgikgpoaaGreatDoor
open Go.RowKit Go.Sort
def frs(gs:List LGlob):Nat->List AFr->List MFr
 |_,[]=>[]
 |n,f::r=>⟨(n:Int),(gAt gs f.g).code,f.at_⟩::frs gs (n+f.s.length) r
theorem frs_snoc(gs:List LGlob):∀(l:List AFr) (n:Nat) (f:AFr),frs gs n (l++[f])=frs gs n l++[⟨((n+(l.flatMap (·.s)).length:Nat):Int),(gAt gs f.g).code,f.at_⟩]
 |[],n,f=>by simp[frs]
 |x::l,n,f=>by
  rw[List.cons_append,frs,frs_snoc gs l,frs,List.cons_append,List.flatMap_cons,List.length_append];simp only[List.cons.injEq,List.append_cancel_left_eq,MFr.mk.injEq,and_true,true_and];omega
structure Sim0 (gs:List LGlob) (t:List UInt8) (a:ASt) (m:MSt):Prop where
 cells:m.cells=a.cells
 stack:m.stack=flat a++a.now.s
 base:m.fr.base=((flat a).length:Int)
 dump:m.dump=frs gs 0 a.dump
 su:m.su=a.steps
 sm:m.sm=a.fuel
 mu:m.mu=a.used
 mm:m.mm=a.spare
 state:m.state=0
 kind:m.kind=a.kind
 text:m.text=t
structure Sim (gs:List LGlob) (t:List UInt8) (a:ASt) (m:MSt):Prop extends Sim0 gs t a m where
 code:m.fr.code=(gAt gs a.now.g).code
 at_:m.fr.at_=a.now.at_
structure SimE (t:List UInt8) (a:ASt) (m:MSt):Prop where
 state:m.state=2
 kind:m.kind=a.kind
 su:m.su=a.steps
 sm:m.sm=a.fuel
 mu:m.mu=a.used
 mm:m.mm=a.spare
 text:m.text=t
structure SimV (t:List UInt8) (v:Int) (a:ASt) (m:MSt):Prop where
 cells:m.cells=a.cells
 stack:m.stack=[v]
 su:m.su=a.steps
 sm:m.sm=a.fuel
 mu:m.mu=a.used
 mm:m.mm=a.spare
 state:m.state=1
 kind:m.kind=a.kind
 text:m.text=t
def SimR(gs:List LGlob)(t:List UInt8)(r:AR)(m:MSt):Prop:=match r.2 with
 |some v=>SimV t v r.1 m
 |none=>if r.1.ended then SimE t r.1 m else Sim gs t r.1 m
theorem simE_of{gs:List LGlob}{t:List UInt8}{a:ASt}{m:MSt}{k:Int}(h:a.ended=false)(hs:m.state=2)(hk:m.kind=k)(h1:m.su=a.steps)(h2:m.sm=a.fuel)(h3:m.mu=a.used)(h4:m.mm=a.spare)(h5:m.text=t):SimR gs t (rEnd k a,none) m:=by
 have e:rEnd k a={a with ended:=true,kind:=k}:=by unfold rEnd;rw[h];rfl
 rw[e];exact⟨hs,hk,h1,h2,h3,h4,h5⟩
theorem simA_of{gs:List LGlob}{t:List UInt8}{a:ASt}{m:MSt}(h:a.ended=false)(hs:Sim gs t a m):SimR gs t (a,none) m:=by
 unfold SimR;show if a.ended then _ else _
 rw[h];exact hs
theorem step_sim{gs:List LGlob}{a:ASt}{m:MSt}(hw:WfB gs a)(h1:m.su=a.steps)(h2:m.sm=a.fuel):stepM m=rStepB a:=by
 have:=hw.steps;unfold stepM rStepB;rw[hw.live,h1,h2,Bool.eq_iff_iff];simp;omega
theorem give_sim{gs:List LGlob}{D:Nat->Nat->Int}{t:List UInt8}{a:ASt}{m:MSt}(hw:WfC gs D a)(h:Sim0 gs t a m)(v:Int):SimR gs t (rVal v a) (giveS v m):=by
 have hs:m.stack.take m.fr.base.toNat=flat a:=by rw[h.stack,h.base];simp
 unfold giveS;simp only[hs];rcases List.eq_nil_or_concat a.dump with e|⟨l,f,e⟩
 ·have hd:=h.dump;have hf:flat a=[]:=by unfold flat;rw[e];rfl
  rw[e]at hd;rw[rVal_nil v e,hd,hf];exact⟨h.cells,rfl,h.su,h.sm,h.mu,h.mm,rfl,h.kind,h.text⟩
 ·rw[List.concat_eq_append]at e;have hd:=h.dump;have hf:flat a=l.flatMap (·.s)++f.s:=by unfold flat;rw[e,flat_snoc]
  rw[e,frs_snoc]at hd;rw[rVal_snoc v e,hd,hf];simp only[List.getLast?_append,List.getLast?_singleton,Option.some_or,List.dropLast_concat];refine simA_of hw.b.live ⟨⟨h.cells,?_,?_,rfl,h.su,h.sm,h.mu,h.mm,h.state,h.kind,h.text⟩,rfl,rfl⟩
  ·show _=l.flatMap (·.s)++(f.s++[v]);rw[List.append_assoc]
  ·show(((0+(l.flatMap (·.s)).length:Nat):Nat):Int)=((l.flatMap (·.s)).length:Int);omega
theorem last_app(l s:List Int)(h:0<s.length):(l++s).getLast?=s.getLast?:=by
 rw[List.getLast?_append];cases hs:s.getLast? with
 |none=>rw[List.getLast?_eq_none_iff]at hs;subst hs;simp at h
 |some x=>rfl
theorem topC_sim{gs:List LGlob}{t:List UInt8}{a:ASt}{m:MSt}(h:Sim0 gs t a m)(hp:0<a.now.s.length):topC m=cAt a ((a.now.s.getLast?).getD 0)∧m.stack.getLast?=a.now.s.getLast?:=by
 have e:m.stack.getLast?=a.now.s.getLast?:=by rw[h.stack,last_app _ _ hp]
 refine⟨?_,e⟩;unfold topC cAt;rw[e,h.cells]
theorem stk_app(f:Int->Int)(l s:List Int)(k:Nat)(hk:k<s.length):stk f (l++s) k=l++stk f s k:=by
 unfold stk;have e1:(l++s).length-k=l.length+(s.length-k):=by simp;omega
 have e2:(l++s).length-1-k=l.length+(s.length-1-k):=by simp;omega
 rw[e1,e2,List.take_append,List.drop_append];simp[List.take_of_length_le,List.drop_eq_nil_of_le]
theorem enter_sim{gs:List LGlob}{D:Nat->Nat->Int}(hG:ImgOk gs D){t:List UInt8}{a:ASt}{m:MSt}(hw:WfC gs D a)(h:Sim0 gs t a m){g:Int}(hg:0<=g∧g<(gs.length:Int)):SimR gs t (if (gAt gs g).arity<(a.now.s.length:Int) then (rEnter gs g a,none) else rVal (a.now.s.headD 0) a) (glS gs g m):=by
 obtain⟨hi,eg⟩:=gAt_eq hg;obtain⟨a0,a1⟩:=hG.ar _ hi;have hp:=hw.ne;have eg':(gs[g.toNat]?).getD ⟨⟨#[]⟩,0,false,[]⟩=gAt gs g:=rfl;unfold glS enterS;rw[eg'];have hu:undr m=(a.now.s.length:Int)-1:=by
  unfold undr;rw[h.stack,h.base];simp;omega
 rw[hu];by_cases ha:(gAt gs g).arity<(a.now.s.length:Int)
 ·rw[eg]at ha ⊢;rw[if_pos ha,if_neg (by omega)];have hargs:argsS gs[g.toNat].arity.toNat m=rArgs gs[g.toNat].arity.toNat a:=by
   unfold argsS rArgs;rw[h.stack];have e2:(flat a++a.now.s).length-1-gs[g.toNat].arity.toNat=(flat a).length+(a.now.s.length-1-gs[g.toNat].arity.toNat):=by simp;omega
   rw[e2,List.drop_append];simp[List.drop_eq_nil_of_le]
  have hk:∀r,knd m r=(cAt a r).kind:=λr=>by unfold knd cAt;rw[h.cells]
  have hr:rgt m=λr=>(cAt a r).right:=by funext r;unfold rgt cAt;rw[h.cells]
  unfold rEnter;rw[eg];simp only[hargs,hk];split
  ·refine simA_of hw.b.live ⟨⟨h.cells,?_,h.base,h.dump,h.su,h.sm,h.mu,h.mm,h.state,h.kind,h.text⟩,?_,rfl⟩
   ·show stk (rgt m) m.stack _=flat a++stk _ _ _;rw[h.stack,hr,stk_app _ _ _ _ (by omega)]
   ·show gs[g.toNat].code=(gAt gs g).code;rw[eg]
  ·exact simE_of hw.b.live rfl rfl h.su h.sm h.mu h.mm h.text
 ·rw[if_neg ha,if_pos (by omega)];have e:(m.stack[m.fr.base.toNat]?).getD 0=a.now.s.headD 0:=by
   rw[h.stack,h.base,Int.toNat_natCast,List.getElem?_append_right (Nat.le_refl _),Nat.sub_self,List.headD_eq_head?_getD,List.head?_eq_getElem?]
  rw[e];exact give_sim hw h _
theorem Sim0.stepped{gs:List LGlob}{t:List UInt8}{a:ASt}{m:MSt}(h:Sim0 gs t a m):Sim0 gs t {a with steps:=a.steps+1} {m with su:=m.su+1}:=
 ⟨h.cells,h.stack,h.base,h.dump,by show m.su+1=a.steps+1;rw[h.su],h.sm,h.mu,h.mm,h.state,h.kind,h.text⟩
theorem look_sim{gs:List LGlob}{D:Nat->Nat->Int}(hG:ImgOk gs D){t:List UInt8}:∀(n:Nat) {a:ASt} {m:MSt},WfC gs D a->Sim0 gs t a m->(a.fuel-a.steps).toNat=n->SimR gs t (aLook gs n a) (lookS (glS gs) giveS n m)
 |0,a,m,hw,h,hn=>by
  have h1:=hw.b.steps;have hb:=(rStep_no hw.b).1.2 (by omega);rw[aLook,(rStep_no hw.b).2 hb,lookS];have hsb:=step_sim hw.b h.su h.sm;rw[hb]at hsb;unfold stepS;rw[hsb];exact simE_of hw.b.live rfl rfl h.su h.sm h.mu h.mm h.text
 |n+1,a,m,hw,h,hn=>by
  have h1:=hw.b.steps;have hne:a.steps≠a.fuel:=by omega
  have hb:rStepB a=true:=by
   cases hb:rStepB a with
   |true=>rfl
   |false=>exact absurd ((rStep_no hw.b).1.1 hb) hne
  have hsb:=step_sim hw.b h.su h.sm;rw[hb]at hsb;obtain⟨ti,te,tc⟩:=cAt_ok hw.b hw.top;have hpos:=hw.ne;obtain⟨e1,e2⟩:=topC_sim h hpos;have hself:WfC gs D {a with steps:=a.steps+1}:=hw.stepped hne (s:=a.now.s) hw.s hw.ne (by omega);have hS:=h.stepped;have hdl:RefOk a.cells.length a.now.s.dropLast:=by rw[List.dropLast_eq_take];exact hw.s.take _
  have hu:undr m=(a.now.s.length:Int)-1:=by
   unfold undr;rw[h.stack,h.base];simp;omega
  rw[aLook,lookS,if_pos hb,if_pos hsb,stepS_ok hsb];simp only[e1,e2,hu];split
  ·rename_i hk
   have:=hw.stepped hne (s:=a.now.s.dropLast++[(cAt a ((a.now.s.getLast?).getD 0)).left]) (hdl.app (RefOk.one (tc.l (Or.inl hk)))) (by simp) (by simp;omega);refine look_sim hG n this ⟨h.cells,?_,h.base,h.dump,hS.su,h.sm,h.mu,h.mm,h.state,h.kind,h.text⟩ (by show(a.fuel-(a.steps+1)).toNat=n;omega);show m.stack.dropLast++_=flat a++(a.now.s.dropLast++_);rw[h.stack,List.dropLast_append_of_ne_nil (by intro e;rw[e]at hpos;simp at hpos),List.append_assoc]
  ·split
   ·rename_i hk
    have:=hw.stepped hne (s:=a.now.s++[(cAt a ((a.now.s.getLast?).getD 0)).left]) (hw.s.app (RefOk.one (tc.l (Or.inr hk)))) (by simp) (by simp);refine look_sim hG n this ⟨h.cells,?_,h.base,h.dump,hS.su,h.sm,h.mu,h.mm,h.state,h.kind,h.text⟩ (by show(a.fuel-(a.steps+1)).toNat=n;omega);show m.stack++_=flat a++(a.now.s++_);rw[h.stack,List.append_assoc]
   ·split
    ·exact simE_of hw.b.live rfl rfl hS.su h.sm h.mu h.mm h.text
    ·split
     ·rename_i hk
      exact enter_sim hG hself hS (tc.g hk)
     ·by_cases hl:1<a.now.s.length
      ·rw[if_pos hl,if_pos (by omega)];exact simE_of hw.b.live rfl rfl hS.su h.sm h.mu h.mm h.text
      ·rw[if_neg hl,if_neg (by omega)];exact give_sim hself hS _
section
variable {gs:List LGlob} {D:Nat->Nat->Int} {t:List UInt8} {a b:ASt} {m:MSt}
theorem Sim.next(h:Sim gs t a m)(hsb:stepM m=true):Sim gs t (rNext a) (nextS (stepS m)):=by
 rw[stepS_ok hsb];exact⟨⟨h.cells,h.stack,h.base,h.dump,by show m.su+1=a.steps+1;rw[h.su],h.sm,h.mu,h.mm,h.state,h.kind,h.text⟩,h.code,by show m.fr.at_+1=a.now.at_+1;rw[h.at_]⟩
theorem Sim.stk(h:Sim gs t a m){p l:List Int}(e:l=flat a++p):Sim gs t (rStk p a) {m with stack:=l}:=
 ⟨⟨h.cells,e,h.base,h.dump,h.su,h.sm,h.mu,h.mm,h.state,h.kind,h.text⟩,h.code,h.at_⟩
theorem take_flat(f s:List Int)(n:Nat)(hn:n<=s.length):(f++s).take ((f++s).length-n)=f++s.take (s.length-n):=by
 have e:(f++s).length-n=f.length+(s.length-n):=by simp;omega
 rw[e,List.take_append];simp[List.take_of_length_le]
theorem drop_flat(f s:List Int)(n:Nat)(hn:n<=s.length):(f++s).drop ((f++s).length-n)=s.drop (s.length-n):=by
 have e:(f++s).length-n=f.length+(s.length-n):=by simp;omega
 rw[e,List.drop_append];simp[List.drop_eq_nil_of_le]
theorem get_flat(f s:List Int)(k:Nat)(hk:k<s.length):(f++s)[(f++s).length-1-k]?=s[s.length-1-k]?:=by
 have e:(f++s).length-1-k=f.length+(s.length-1-k):=by simp;omega
 rw[e,List.getElem?_append_right (by omega),Nat.add_sub_cancel_left]
theorem Sim.drop(h:Sim gs t a m){n:Nat}(hn:n<=a.now.s.length):Sim gs t (rStk (a.now.s.take (a.now.s.length-n)) a) (dropS n m):=by
 refine h.stk ?_;rw[h.stack];exact take_flat _ _ _ hn
theorem Sim.push(h:Sim gs t a m)(x:Int):Sim gs t (rStk (a.now.s++[x]) a) (pushS x m):=by
 refine h.stk ?_;rw[h.stack,List.append_assoc]
theorem room_sim(h:Sim gs t b m)(n:Int):roomB n m=rRoomB n b:=by
 unfold roomB rRoomB;rw[h.mm,h.mu,Bool.eq_iff_iff];simp;omega
theorem Sim.add(h:Sim gs t b m)(x:MCl):Sim gs t (rMake x b) (addS x m):=
 ⟨⟨by show m.cells++[x]=b.cells++[x];rw[h.cells],by show m.stack++[(m.cells.length:Int)]=flat b++(b.now.s++[(b.cells.length:Int)]);rw[h.stack,h.cells,List.append_assoc],h.base,h.dump,h.su,h.sm,h.mu,h.mm,h.state,h.kind,h.text⟩,h.code,h.at_⟩
theorem Sim.addN(h:Sim gs t b m)(n:Nat):Sim gs t (rMakeN n b) (addN n m):=by
 induction n with
 |zero=>exact h
 |succ n ih=>exact ih.add _
theorem Sim.roomY(h:Sim gs t b m){n:Int}(hr:rRoomB n b=true):Sim gs t (rRoomS n b) (roomS n m):=by
 unfold rRoomS roomS;rw[room_sim h,hr];exact⟨⟨h.cells,h.stack,h.base,h.dump,h.su,h.sm,by show m.mu+n=b.used+n;rw[h.mu],h.mm,h.state,h.kind,h.text⟩,h.code,h.at_⟩
theorem stop_sim(hl:b.ended=false)(h:Sim gs t b m)(k:Int):SimR gs t (rEnd k b,none) (stopS k m):=simE_of hl rfl rfl h.su h.sm h.mu h.mm h.text
theorem stopP_sim(hl:b.ended=false){p:List Int}(h:Sim gs t (rStk p b) m)(k:Int):SimR gs t (rEnd k b,none) (stopS k m):=simE_of hl rfl rfl h.su h.sm h.mu h.mm h.text
theorem roomN_sim(hl:b.ended=false)(h:Sim gs t b m){n:Int}(hr:rRoomB n b=false):SimR gs t (rEnd 2 b,none) (roomS n m):=by
 unfold roomS;rw[room_sim h,hr];exact stop_sim hl h 2
theorem room_live{n:Int}(hl:b.ended=false)(hr:rRoomB n b=true):(rRoomS n b).ended=false:=by
 unfold rRoomS;rw[hr];exact hl
theorem put_sim(hl:b.ended=false){p:List Int}(h:Sim gs t (rStk p b) m)(x:MCl):SimR gs t (if rRoomB 1 b then rMake x (rStk p (rRoomS 1 b)) else rEnd 2 b,none) (putS x m):=by
 have e:roomB 1 m=rRoomB 1 b:=room_sim h 1;unfold putS;rw[e];cases hr:rRoomB 1 b with
 |true=>
  have h1:=(h.roomY (n:=1) hr).add x;have e2:rRoomS 1 (rStk p b)=rStk p (rRoomS 1 b):=by
   unfold rRoomS;rw[show rRoomB 1 (rStk p b)=rRoomB 1 b from rfl,hr];rfl
  rw[e2]at h1;exact simA_of (room_live hl hr) h1
 |false=>
  have e2:roomS 1 m=stopS 2 m:=by
   unfold roomS;rw[e,hr];rfl
  rw[if_neg (by simp),if_neg (by simp),e2];exact stopP_sim hl h 2
theorem alloc_sim(hl:b.ended=false)(h:Sim gs t b m)(n:Nat):SimR gs t (if rRoomB n b then rMakeN n (rRoomS n b) else rEnd 2 b,none) (allocS n m):=by
 unfold allocS;rw[room_sim h];cases hr:rRoomB (n:Int) b with
 |true=>
  refine simA_of ?_ ((h.roomY hr).addN n);rw[if_pos rfl,rMakeN_eq];exact room_live hl hr
 |false=>exact roomN_sim hl h hr
theorem cat_sim(h:Sim gs t b m)(r:Int):(m.cells[r.toNat]?).getD ⟨0,0,0,0,[]⟩=cAt b r:=by
 unfold cAt;rw[h.cells]
theorem split_sim(hl:b.ended=false)(h:Sim gs t b m)(n:Int)(hp:0<b.now.s.length):SimR gs t (rSplit n b,none) (splitS n ((b.now.s.getLast?).getD 0) m):=by
 unfold splitS rSplit;simp only[cat_sim h];have h1:=h.drop (n:=1) hp;split
 ·exact stopP_sim hl h1 3
 ·refine simA_of hl (h.stk (l:=_) ?_);rw[h1.stack,List.dropLast_eq_take];show flat b++_++_=_;rw[List.append_assoc];rfl
theorem fork_sim(hl:b.ended=false)(h:Sim gs t b m)(al:List LAlt)(hp:0<b.now.s.length):SimR gs t (rFork al b,none) (forkS al m):=by
 obtain⟨e,-⟩:=topC_sim h.toSim0 hp;unfold forkS rFork;simp only[e];split
 ·exact stop_sim hl h 3
 ·cases al.find? (λa=>decide (a.tag=(cAt b ((b.now.s.getLast?).getD 0)).n)) with
  |some x=>exact simA_of hl ⟨⟨h.cells,h.stack,h.base,h.dump,h.su,h.sm,h.mu,h.mm,h.state,h.kind,h.text⟩,h.code,rfl⟩
  |none=>exact stop_sim hl h 4
theorem drop2_sim(h:Sim gs t b m)(hp:2<=b.now.s.length):Sim gs t (rStk (b.now.s.take (b.now.s.length-2)) b) (dropS 1 (dropS 1 m)):=by
 have h1:=h.drop (n:=1) (by omega);have h2:=h1.drop (n:=1) (by show 1<=(b.now.s.take (b.now.s.length-1)).length;rw[List.length_take];omega);have e:(rStk (b.now.s.take (b.now.s.length-1)) b).now.s.take ((rStk (b.now.s.take (b.now.s.length-1)) b).now.s.length-1)=b.now.s.take (b.now.s.length-2):=by
  show(b.now.s.take (b.now.s.length-1)).take ((b.now.s.take (b.now.s.length-1)).length-1)=_;rw[List.length_take,List.take_take];congr 1
  omega
 rw[e]at h2;exact h2
theorem cal_sim(hl:b.ended=false)(h:Sim gs t b m)(op:Int)(l r:MCl)(hp:2<=b.now.s.length):SimR gs t (rReck op (b.now.s.take (b.now.s.length-2)) l r b,none) (calS op l r m):=by
 have h2:=drop2_sim h hp;unfold calS rReck;split
 ·exact stopP_sim hl h2 3
 ·split
  ·exact stopP_sim hl h2 6
  ·have:=put_sim hl h2 (rkC op l.n r.n);cases hr:rRoomB 1 b with
   |true=>rw[hr]at this;exact this
   |false=>rw[hr]at this;exact this
theorem upd_sim(hl:b.ended=false)(h:Sim gs t b m){r:Nat}{x:Int}(hp:1<=b.now.s.length):SimR gs t (rStk (b.now.s.take (b.now.s.length-1)) {b with cells:=b.cells.set r ⟨5,0,x,0,[]⟩},none) (updS r x (dropS 1 m)):=by
 have h1:=h.drop (n:=1) hp;exact simA_of hl ⟨⟨by show m.cells.set r _=b.cells.set r _;rw[h.cells],h1.stack,h.base,h.dump,h.su,h.sm,h.mu,h.mm,h.state,h.kind,h.text⟩,h.code,h.at_⟩
theorem eval_sim(h:Sim gs t b m)(hp:0<b.now.s.length):Sim0 gs t (rEval b) (evalS m):=by
 have hs:b.now.s.dropLast++[(b.now.s.getLast?).getD 0]=b.now.s:=by
  have hne:b.now.s≠[]:=by intro e;rw[e]at hp;simp at hp
  rw[List.getLast?_eq_some_getLast hne];exact List.dropLast_concat_getLast hne
 have hf:flat (rEval b)=flat b++b.now.s.dropLast:=by unfold flat rEval;simp
 refine⟨h.cells,?_,?_,?_,h.su,h.sm,h.mu,h.mm,h.state,h.kind,h.text⟩
 ·show m.stack=flat (rEval b)++[(b.now.s.getLast?).getD 0];rw[hf,List.append_assoc,hs,h.stack]
 ·show(m.stack.length:Int)-1=((flat (rEval b)).length:Int);rw[hf,h.stack];simp;omega
 ·show m.dump++[m.fr]=frs gs 0 (b.dump++[{b.now with s:=b.now.s.dropLast}]);rw[frs_snoc,h.dump];have e:m.fr=⟨m.fr.base,m.fr.code,m.fr.at_⟩:=rfl;rw[e,h.base,h.code,h.at_];unfold flat;simp
theorem aDo_ins(hb:rStepB a=true){i:LIns}(he:iAt gs a=i)(h1:i.op≠19)(h2:i.op≠8):aDo gs a=(rDoes i (rNext a),none):=by
 unfold aDo;rw[if_pos hb,he];simp only;rw[if_neg h1,if_neg h2]
end
theorem globs_ar{imps:List LImp}:∀{l:List LGlob} {last:ByteArray},globsFrom imps last l=true->∀x∈l,arB x.arity=true
 |x::r,last,h,y,hy=>by
  simp only[globsFrom,Bool.and_eq_true]at h;rcases List.mem_cons.1 hy with rfl|hy
  ·exact h.1.1.2
  ·exact globs_ar h.2 y hy
theorem okO_codes{O:LObj}(h:okO O=true):∀g∈O.globs,(0<=g.arity∧g.arity<=20)∧∃D,CodeOk g.code g.arity D:=by
 unfold okO at h;rw[Bool.and_eq_true,Option.isNone_iff_eq_none]at h;obtain⟨h1,h2⟩:=h;simp only[valsG,Bool.and_eq_true]at h1;obtain⟨g1,-⟩:=globs_good h1.2;intro g hg;have ha:0<=g.arity∧g.arity<=20:=by
  have:=globs_ar h1.2 g hg;simpa[arB]using this
 exact⟨ha,gBad_ok (sBad_none h2 g hg) (g1 g hg) ha⟩
theorem mvI_ne{Os:List LObj}{O:LObj}{f:Nat}{x:LIns}(h:x.op≠1):mvI Os O f x=x:=by unfold mvI;rw[if_neg h]
theorem mv_need(Os:List LObj)(O:LObj)(f:Nat)(x:LIns):needR (mvI Os O f x).op.toNat (mvI Os O f x).a=needR x.op.toNat x.a∧moreR (mvI Os O f x).op.toNat (mvI Os O f x).a=moreR x.op.toNat x.a:=by
 by_cases h:x.op=1
 ·rw[(mvI_op Os O f x).1,h];exact⟨rfl,rfl⟩
 ·rw[mvI_ne h];exact⟨rfl,rfl⟩
theorem mv_succs(Os:List LObj)(O:LObj)(f:Nat)(x:LIns)(k:Nat):succs (mvI Os O f x) k=succs x k:=by
 by_cases h:x.op=1
 ·unfold succs;rw[(mvI_op Os O f x).1,(mvI_op Os O f x).2,h];rfl
 ·rw[mvI_ne h]
theorem CodeOk.mv{code:List LIns}{ar:Int}{D:Nat->Int}(h:CodeOk code ar D)(Os:List LObj)(O:LObj)(f:Nat):CodeOk (code.map (mvI Os O f)) ar D:=by
 refine⟨by rw[List.length_map];exact h.pos,by rw[List.length_map];exact h.len,h.start,λy hy=>?_,λk hk h0=>?_⟩
 ·obtain⟨x,hx,rfl⟩:=List.mem_map.1 hy;obtain⟨p,q⟩:=h.ins x hx;refine⟨by rw[(mvI_op Os O f x).1];exact p,?_⟩;rw[(mvI_op Os O f x).1,(mvI_op Os O f x).2];by_cases e:x.op=1
  ·rw[if_pos e]at q ⊢;exact q
  ·rw[if_neg e]at q ⊢;rw[mvI_ne e];exact q
 ·rw[List.length_map]at hk;obtain⟨q1,q2,q3⟩:=h.go k hk h0;rw[List.getElem_map];obtain⟨n1,n2⟩:=mv_need Os O f code[k];refine⟨q1,?_,λs hs=>?_⟩
  ·unfold wrongR at q2 ⊢;rw[n1,n2,(mvI_op Os O f code[k]).1];exact q2
  ·rw[mv_succs]at hs;obtain⟨s1,s2,s3⟩:=q3 s hs;exact⟨by rw[List.length_map];exact s1,by rw[n2];exact s2,s3⟩
theorem imK_len(Os:List LObj):∀(l:List LObj) (n:Nat),(imgF Os l n).length=(l.map λO=>O.globs.length).sum
 |[],_=>rfl
 |O::r,n=>by
  rw[imgF,List.length_append,List.length_map,imK_len Os r,List.map_cons,List.sum_cons]
theorem imK_mem(Os:List LObj):∀(l:List LObj) (n:Nat),∀x∈imgF Os l n,∃O∈l,∃f,∃g∈O.globs,x=mvG Os O f g∧f+O.globs.length<=n+(l.map λO=>O.globs.length).sum
 |[],_,x,h=>by cases h
 |O::r,n,x,h=>by
  rw[imgF]at h;rw[List.map_cons,List.sum_cons];rcases List.mem_append.1 h with h|h
  ·obtain⟨g,hg,rfl⟩:=List.mem_map.1 h;exact⟨O,List.mem_cons_self ..,n,g,hg,rfl,by omega⟩
  ·obtain⟨O',hO,f,g,hg,e,hl⟩:=imK_mem Os r _ x h;exact⟨O',List.mem_cons_of_mem _ hO,f,g,hg,e,by omega⟩
theorem exK_ltG{t:ByteArray}:∀{l:List LGlob} {n m:Nat} {a:Int},exG t l n=some (m,a)->n<=m∧m<n+l.length
 |g::r,n,m,a,h=>by
  rw[exG]at h;rw[List.length_cons];split at h
  ·cases h;omega
  ·have:=exK_ltG h;omega
theorem exK_ltO{t:ByteArray}:∀{l:List LObj} {k n m who:Nat} {a:Int},exO t l k n=some (m,who,a)->n<=m∧m<n+(l.map λO=>O.globs.length).sum
 |O::r,k,n,m,who,a,h=>by
  rw[exO]at h;rw[List.map_cons,List.sum_cons];split at h
  ·rename_i m' a' e
   cases h;have:=exK_ltG e;omega
  ·have:=exK_ltO h;omega
theorem lnk_none{Os:List LObj}{entry:ByteArray}(h:lnkE Os entry=none):(∀O∈Os,okO O=true)∧(∀O∈Os,miB Os O=false)∧sz Os<=200000∧∃n who,expo Os entry=some (n,who,0):=by
 unfold lnkE at h;split at h
 ·cases h
 ·cases h1:fstF (λ_ O=>!okO O) Os 0 with
  |some k=>rw[h1]at h;cases h
  |none=>
   rw[h1]at h;cases h2:fstF (twB Os) Os 0 with
   |some k=>rw[h2]at h;cases h
   |none=>
    rw[h2]at h;cases h3:fstF (λ_=>miB Os) Os 0 with
    |some k=>rw[h3]at h;cases h
    |none=>
     rw[h3]at h;cases h4:fstF (λ_=>arB2 Os) Os 0 with
     |some k=>rw[h4]at h;cases h
     |none=>
      rw[h4]at h;have hx:lnkX Os entry=none:=h;unfold lnkX at hx;split at hx
      ·cases hx
      ·rename_i n who a e
       split at hx
       ·cases hx
       ·rename_i ha
        split at hx
        ·cases hx
        ·rename_i hs
         refine⟨λO hO=>?_,λO hO=>?_,by omega,n,who,by rw[e];simp at ha;rw[ha]⟩
         ·obtain⟨i,hi,rfl⟩:=List.getElem_of_mem hO;have:=fstF_none h1 i hi;simpa using this
         ·obtain⟨i,hi,rfl⟩:=List.getElem_of_mem hO;exact fstF_none h3 i hi
def A64(Os:List LObj):Prop:=∀O∈Os,∀g∈O.globs,∀i∈g.code,-9223372036854775808<=i.a∧i.a<=9223372036854775807
theorem img_ok{Os:List LObj}{entry:ByteArray}(h:lnkE Os entry=none)(hA:A64 Os):(∃D,ImgOk (img Os) D)∧0<=imgE Os entry∧imgE Os entry<((img Os).length:Int):=by
 obtain⟨h1,h2,h3,n,who,h4⟩:=lnk_none h;have hS:∀O∈Os,SoundO O:=λO hO=>okO_sound (h1 O hO);have hlen:(img Os).length=(Os.map λO=>O.globs.length).sum:=imK_len Os Os 0;have hb:gBase Os Os.length=(Os.map λO=>O.globs.length).sum:=by unfold gBase;rw[List.take_length]
 have hfew:(img Os).length<=200000:=by
  have:=sz_base hS;omega
 have hmem:∀x∈img Os,∃O∈Os,∃f,∃g∈O.globs,x=mvG Os O f g∧f+O.globs.length<=(img Os).length:=λx hx=>by
  obtain⟨O,hO,f,g,hg,e,hl⟩:=imK_mem Os Os 0 x hx;exact⟨O,hO,f,g,hg,e,by omega⟩
 have hcd:∀g (h:g<(img Os).length),∃D,CodeOk (img Os)[g].code (img Os)[g].arity D:=λg hg=>by
  obtain⟨O,hO,f,x,hx,e,-⟩:=hmem _ (List.getElem_mem hg);obtain⟨-,D,hD⟩:=okO_codes (h1 O hO) x hx;rw[e];exact⟨D,hD.mv Os O f⟩
 refine⟨⟨λg=>if hg:g<(img Os).length then Classical.choose (hcd g hg) else λ_=>0,hfew,λg hg=>?_,λg hg=>?_,λg hg i hi=>?_⟩,?_,?_⟩
 ·obtain⟨O,hO,f,x,hx,e,-⟩:=hmem _ (List.getElem_mem hg);rw[e];exact(okO_codes (h1 O hO) x hx).1
 ·rw[dif_pos hg];exact Classical.choose_spec (hcd g hg)
 ·obtain⟨O,hO,f,x,hx,e,hl⟩:=hmem _ (List.getElem_mem hg);rw[e]at hi;obtain⟨y,hy,rfl⟩:=List.mem_map.1 (show i∈x.code.map (mvI Os O f) from hi);by_cases ho:y.op=1
  ·have hg1:=((hS O hO).ix x hx y hy).g ho;have hnb:0<=numb Os O f y.a∧numb Os O f y.a<((img Os).length:Int):=by
    unfold numb;split
    ·rename_i hlt
     have hi2:y.a.toNat<O.imps.length:=by omega
     rw[List.getElem?_eq_getElem hi2];simp only[Option.bind_some];have hm:=h2 O hO;unfold miB at hm;rw[List.any_eq_false]at hm;have hm2:=hm O.imps[y.a.toNat] (List.getElem_mem hi2);cases hx2:expo Os O.imps[y.a.toNat].name with
     |none=>rw[hx2]at hm2;simp at hm2
     |some z=>
      obtain⟨n2,w2,a2⟩:=z;have:=exK_ltO hx2;simp only;omega
    ·omega
   have em:(mvI Os O f y).a=numb Os O f y.a:=by unfold mvI;rw[if_pos ho]
   rw[em];exact⟨λ_=>hnb,by omega,by omega⟩
  ·rw[mvI_ne ho];exact⟨λe=>absurd e ho,hA O hO x hx y hy⟩
 ·unfold imgE;rw[h4];simp only;omega
 ·unfold imgE;rw[h4];have:=exK_ltO h4;simp only;omega
end Go.Proofs.YtahmgjjgikgpoaaGreatDoor
