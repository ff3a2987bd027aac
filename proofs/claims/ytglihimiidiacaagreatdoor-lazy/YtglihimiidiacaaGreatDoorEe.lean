import Derived.Test.YtglihimiidiacaaGreatDoorEd
import Derived.RangeFuncLeaves
namespace Go.Proofs.YtglihimiidiacaaGreatDoor.Ev8
open Go
variable {P:Program} {ι ι':Io}
theorem mst_le(most:Option Nat)(l:Nat):mst most l≤l:=by
 cases most with
 |none=>exact Nat.le_refl _
 |some m=>
  show(bif Nat.ble l m then l else m)≤l;cases h:Nat.ble l m with
  |true=>exact Nat.le_refl _
  |false=>
   rw[ble_dec]at h;simp at h;show m≤l;omega
theorem mst_0(most:Option Nat):mst most 0=0:=by have:=mst_le most 0;omega
def SrcF(P:Program)(ι:Io)(w:World)(e:Nat)(y:Value)(l:AV)(L m:Nat):Prop:=(∀w,(Builtin.lenOf y).run P w=.ok L w)∧∃new:Array Value,(∀w',w'.heap=w.heap→(Builtin.firstCells e m y).run P w'=.ok new w')∧RL ι l new.toList
theorem srcC_sl{s0:Nat}{h:Tr Blk 7}{b e o k n:Nat}{c most:Option Nat}{C:AV→Nat→Res}:srcC s0 h (.sl b e o k n c) most C=fN (mst most n) fun n=>Blk.rec (motive:=fun _=>Res) .fail (fun _ _ _ _ _ _=>.fail) (fun _=>.fail)
 (fun _qq cs nb=>Bool.rec (motive:=fun _=>Res) .fail (ldN 2 cs (Nat.mul n e) (Nat.mul o e) fun l=>C l n) (and (Nat.beq e s0) (Nat.ble (Nat.add (Nat.mul o e) (Nat.mul n e)) nb)))
 (fun _qq cs nb=>Bool.rec (motive:=fun _=>Res) .fail (ldN 6 cs (Nat.mul n e) (Nat.mul o e) fun l=>C l n) (and (Nat.beq e s0) (Nat.ble (Nat.add (Nat.mul o e) (Nat.mul n e)) nb))) (fun _=>.fail) (get 7 b h):=rfl
theorem srcC_ok{s0:Nat}{h:Tr Blk 7}{t:AV}{most:Option Nat}{C:AV→Nat→Res}{R:Res}(hh:srcC s0 h t most C=R)(hR:R≠.fail):
 ∃L l,C l (mst most L)=R∧lenL' l=some (mst most L*s0)∧∀ι w nx v,HR ι ⟨h,nx⟩ w→RV ι t v→SrcF P ι w s0 v l L (mst most L):=by
 cases t with
 |v x=>
  obtain⟨c1,h1⟩:=tst hR hh;have hx:=isNilS_eq c1;subst hx;refine⟨0,.nil,by rw[mst_0];exact h1,by rw[mst_0];simp[lenL'],fun ι w nx v hr hvv=>?_⟩;rw[mst_0,hvv.vv];exact⟨fun w=>rfl,#[],fun w' _=>rfl,rfl⟩
 |s l n=>
  obtain⟨c1,h1⟩:=tst hR hh;have hs:s0=1:=Nat.eq_of_beq_eq_true c1;subst hs;refine⟨l,_,h1,by rw[Nat.mul_one];exact(by_rl (ι:=fun _=>none) _ n).2,fun ι w nx v hr hvv=>⟨fun w=>?_,?_⟩⟩
  ·rw[hvv.str];show Result.ok (bsOf l n).size w=_;rw[bsOf_size]
  ·obtain⟨new,h2,h3,-⟩:=src_str (P:=P) hvv (mst_le most l);exact⟨new,fun w' _=>h2 w',h3⟩
 |sl b e o k n c=>
  rw[srcC_sl,fN_eq]at hh;rcases row_ok (B:=get 7 b h) hR hh with⟨τ,cs,nb,h1,hB⟩|⟨τ,cs,nb,h1,hB⟩
  ·obtain⟨c0,h2⟩:=tst hR h1;obtain⟨c1,c2⟩:=and_ok c0;have he:e=s0:=Nat.eq_of_beq_eq_true c1;subst he;rw[ldN_to]at h2;refine⟨n,_,h2,by unfold ldL;rw[lenL_mkL];simp,fun ι w nx v hr hvv=>?_⟩;obtain⟨E,hE,-⟩:=hvv.sl;obtain⟨e1,hok⟩:=hr.at hE;have e1':hp h b=hv (get 7 b h):=e1;have hok1:bOk (get 7 b h):=hok;rw[hB]at e1' hok1;have hok':nb≤16:=hok1;have hle:o*e+mst most n*e≤nb:=Nat.le_of_ble_eq_true c2;obtain⟨A,Cc,h3,new,h4,h5⟩:=src_sl (P:=P) hvv hr.rel e1' (mst_le most n) hle;refine⟨fun w=>by rw[h3];rfl,new,h4,?_⟩;show RL ι (ldL 2 cs (mst most n*e) (o*e)) _;unfold ldL;rw[map_vw (d:=2) (by omega)];exact h5
  ·obtain⟨c0,h2⟩:=tst hR h1;obtain⟨c1,c2⟩:=and_ok c0;have he:e=s0:=Nat.eq_of_beq_eq_true c1;subst he;rw[ldN_to]at h2;refine⟨n,_,h2,by unfold ldL;rw[lenL_mkL];simp,fun ι w nx v hr hvv=>?_⟩;obtain⟨E,hE,-⟩:=hvv.sl;obtain⟨e1,hok⟩:=hr.at hE;have e1':hp h b=hv (get 7 b h):=e1;have hok1:bOk (get 7 b h):=hok;rw[hB]at e1' hok1;have hok':nb≤4096:=hok1;have hle:o*e+mst most n*e≤nb:=Nat.le_of_ble_eq_true c2;obtain⟨A,Cc,h3,new,h4,h5⟩:=src_sl (P:=P) hvv hr.rel e1' (mst_le most n) hle;refine⟨fun w=>by rw[h3];rfl,new,h4,?_⟩;show RL ι (ldL 6 cs (mst most n*e) (o*e)) _;unfold ldL;rw[map_vw (d:=6) (by omega)];exact h5
 |_=>exact absurd hh.symm hR
theorem nth_ldL{d:Nat}{cs:Tr AV d}{n o j:Nat}(hj:j<n):nthA (ldL d cs n o) j=get d (o+j) cs:=by
 unfold ldL;rw[nth_mkL _ j (by simpa using hj),List.getElem?_map,List.getElem?_range' hj];simp
def ApR(P:Program)(sz:Nat)(s:AV)(h:Tr Blk 7)(nx:Nat)(l:AV)(m:Nat)(C:AV→Tr Blk 7→Nat→Res)(R:Res)(ty:Option TypeId:=none):Prop:=∃u h' nx',C u h' nx'=R∧
 ∀el i z ι w ev o args ts x y,o.op=.call {callee:=.builtin .append,args:=args,argTypes:=ts}→args=#[x,y]→ApT P ts el i z→i.size=sz→0<sz→i.bytes≤1073741824→(∀t,ty=some t→t=el)→HR ι ⟨h,nx⟩ w→RV ι s (ev x)→SrcF P ι w sz (ev y) l m m→St P ι ⟨h,nx⟩ w ev o u ⟨h',nx'⟩
theorem tyQ_ok{ty:TypeId}{qq:Option TypeId}{C:Option TypeId→Res}{R:Res}(h:tyQ ty qq C=R)(_hR:R≠.fail):∃τ',(τ'=none∨(τ'=some ty∧qq=some ty))∧C τ'=R:=by
 cases qq with
 |none=>exact⟨none,.inl rfl,h⟩
 |some u=>
  change Bool.rec (motive:=fun _=>Res) (C none) (C (some ty)) (Nat.beq u ty)=R at h;cases hb:Nat.beq u ty with
  |false=>rw[hb]at h;exact⟨none,.inl rfl,h⟩
  |true=>rw[hb]at h;exact⟨some ty,.inr ⟨rfl,by rw[Nat.eq_of_beq_eq_true hb]⟩,h⟩
theorem catA_ok:∀{a l:AV} {C:AV→Res} {R:Res},catA a l C=R→R≠.fail→∃m,cat a l=some m∧C m=R:=by
 intro a;induction a with
 |nil=>intro l C R h hR;exact⟨l,rfl,h⟩
 |cons x a _ ih=>
  intro l C R h hR;obtain⟨m,h1,h2⟩:=ih (C:=fun t=>C (.cons x t)) h hR;exact⟨.cons x m,by simp[cat,h1],h2⟩
 |_=>intro l C R h hR;exact absurd h.symm hR
theorem ap2I_ok{C:AV→Tr Blk 7→Nat→Res}{l:AV}{m:Nat}{h:Tr Blk 7}{nx b sz o q n:Nat}{c:Option Nat}{qq:Option TypeId}{cs:Tr AV 2}{nb:Nat}{R:Res}(hB:get 7 b h=.s qq cs nb)(hin:appIn o n m sz nb c=true)(hm:m≠0)(hone:oneL l=true)(hL:lenL' l=some (m*sz))(hh:ap2I C l m h nx b sz o q n c qq cs nb=R)(hR:R≠.fail):ApR P sz (.sl b sz o q n c) h nx l m C R:=by
 obtain⟨c1,h1⟩:=tst hR hh;have hle:(o+(n+m))*sz≤nb:=Nat.le_of_ble_eq_true c1;obtain⟨m',hl,h2⟩:=stN_to 2 h1 hR;rw[pw_put,fN_eq]at h2;refine⟨_,_,_,h2,fun el i z ι w ev op args ts x y ho ha T hsz hpos hby hty hr hx hs=>?_⟩;subst hsz;obtain⟨hlen,new,h3,h4⟩:=hs;obtain⟨E,hE,-⟩:=hx.sl;obtain⟨e1,hok⟩:=hr.at hE;have e1':hp h b=hv (get 7 b h):=e1;have hok1:bOk (get 7 b h):=hok;rw[hB]at e1' hok1;have hok':nb≤16:=hok1;have hq:(o+n)*i.size+m*i.size≤nb:=by rw[←Nat.add_mul,Nat.add_assoc];exact hle
 refine St.wr hr (hr.blt hE) (B:=.s qq (sts 2 l ((o+n)*i.size) cs) nb) hok1 hr.nx ?_;exact wr_apIn ho ha T hr.rel hx (Nat.pos_of_ne_zero hm) hpos e1' hlen (h3 w rfl) hL h4 (vw_sts 2 hL (by omega) hone) hle fun c0 hc=>by subst hc;exact Nat.le_of_ble_eq_true hin
theorem ap2N_ok{C:AV→Tr Blk 7→Nat→Res}{ty:TypeId}{l:AV}{m:Nat}{h:Tr Blk 7}{nx b sz o q n:Nat}{qq:Option TypeId}{cs:Tr AV 2}{nb:Nat}{R:Res}(hB:get 7 b h=.s qq cs nb)(hm:m≠0)(hnb:(o+n)*sz≤nb)(hone:oneL l=true)(hL:lenL' l=some (m*sz))(hh:ap2N C ty l m h nx b sz o n qq cs=R)(hR:R≠.fail):ApR P sz (.sl b sz o q n none) h nx l m C R (some ty):=by
 change Bool.rec (motive:=fun _=>Res) _ _ _=R at hh;cases hc:and (and (Nat.beq o 0) (Nat.blt nx 16384)) (Nat.ble (Nat.mul (Nat.add n m) sz) 16) with
 |true=>
  rw[hc]at hh;obtain⟨c0,c3⟩:=and_ok hc;obtain⟨c1,c2⟩:=and_ok c0;have ho0:o=0:=Nat.eq_of_beq_eq_true c1;subst ho0;have hnx:=blt_lt c2;have hle:(n+m)*sz≤16:=Nat.le_of_ble_eq_true c3;obtain⟨m',hl,h2⟩:=stN_to 2 hh hR;rw[hL]at hl;cases hl;rw[fN_eq,pw_put]at h2;obtain⟨τ',hτ,h3⟩:=tyQ_ok h2 hR;rw[pw_put,fN_eq,fN_eq]at h3;refine⟨_,_,_,h3,fun ty' i z ι w ev op args ts x y ho ha T hsz hpos hby hty hr hx hs=>?_⟩;subst hsz;have hty':=hty ty rfl;subst hty';obtain⟨hlen,new,h4,h5⟩:=hs;obtain⟨E,hE,-⟩:=hx.sl;obtain⟨e1,hok⟩:=hr.at hE;have e1':hp h b=hv (get 7 b h):=e1;have hok1:bOk (get 7 b h):=hok;rw[hB]at e1' hok1;have hok':nb≤16:=hok1;have hnm:n*i.size+m*i.size=(n+m)*i.size:=(Nat.add_mul n m i.size).symm;have hnn:(0+n)*i.size≤nb:=hnb;rw[Nat.zero_add]at hnn;have hnm2:n+m≤16:=Nat.le_trans (Nat.le_mul_of_pos_right _ hpos) hle;have hbig:(n+m)*i.bytes≤140737488355328:=by
   have:(n+m)*i.bytes≤16*1073741824:=Nat.mul_le_mul hnm2 hby
   omega
  obtain⟨r,w',ι',v,g1,g2,g3,g4⟩:=wr_apU (τ':=τ') (cs':=vw 2 (sts 2 l (n*i.size) cs)) ho ha T hr.rel hx (Nat.pos_of_ne_zero hm) hpos e1' hτ (by rw[Nat.zero_mul,Nat.zero_add];exact hnn) hlen h4 hL h5 hone hbig (by simp[IntKind.max,IntKind.signed,IntKind.bits];omega)
   (fun j hj=>by rw[vw_get (by omega),vw_get (by omega),get_sts 2 hL (by omega) (by omega),if_neg (by omega)];congr 1;omega)
   (fun j hj=>by rw[vw_get (by omega),get_sts 2 hL (by omega) (by omega),if_pos (by omega)];congr 1;omega)
  have hrk:=hr.put (hr.blt hE) (B:=.no) trivial hr.nx (Le.refl _) (hr.rel.kill b) (hr.sn.kill b);have hfin:hv (.s τ' (sts 2 l (n*i.size) cs) (n*i.size+m*i.size))=.c τ' (vw 2 (sts 2 l (n*i.size) cs)) ((n+m)*i.size):=by rw[hnm];rfl
  refine⟨r,w',ι',v,g1,g2,g3,hrk.put hnx (B:=.s τ' (sts 2 l (n*i.size) cs) (n*i.size+m*i.size)) (by show _≤_;rw[hnm];exact hle) hnx g4.le ?_ ?_,?_⟩
  ·rw[hp_put _ _ (hr.blt hE),hfin];exact g4.rel
  ·rw[hp_put _ _ (hr.blt hE),hfin];exact hr.sn.go g4
  ·show Go1 ι (hp h) w ι' (hp (put 7 nx (.s τ' (sts 2 l (n*i.size) cs) (n*i.size+m*i.size)) (put 7 b .no h))) (nx+1) w';rw[hp_put _ _ hnx,hp_put _ _ (hr.blt hE),hfin];exact g4
 |false=>
  rw[hc]at hh;change ldN 2 cs (n*sz) (o*sz) _=R at hh;rw[ldN_to]at hh;obtain⟨l2,hcat,h2⟩:=catA_ok hh hR;rw[pw_put]at h2;obtain⟨τ',hτ,h3⟩:=tyQ_ok h2 hR;obtain⟨B,n',hnx,hn',hBo,h4⟩:=newB_ok h3 hR;rw[fN_eq]at h4;refine⟨_,_,_,h4,fun ty' i z ι w ev op args ts x y ho ha T hsz hpos hby hty hr hx hs=>?_⟩;subst hsz;have hty':=hty ty rfl;subst hty';obtain⟨hlen,new,h5,h6⟩:=hs;obtain⟨E,hE,-⟩:=hx.sl;obtain⟨e1,hok⟩:=hr.at hE;have e1':hp h b=hv (get 7 b h):=e1;have hok1:bOk (get 7 b h):=hok;rw[hB]at e1' hok1;have hok':nb≤16:=hok1;have hqn:o*i.size+n*i.size≤nb:=by rw[←Nat.add_mul];exact hnb
  have hlo:lenL' (ldL 2 cs (n*i.size) (o*i.size))=some (n*i.size):=by unfold ldL;rw[lenL_mkL];simp
  obtain⟨k1,k2,k3⟩:=cat_len hcat hlo hL;have hnm:n*i.size+m*i.size=(n+m)*i.size:=(Nat.add_mul n m i.size).symm;have hn2:n'=(n+m)*i.size:=by have:=hBo.2.1;rw[k1,hnm]at this;exact(Option.some.inj this).symm
  subst hn2;have hnm2:n+m≤4096:=Nat.le_trans (Nat.le_mul_of_pos_right _ hpos) hn';have hbig:(n+m)*i.bytes≤140737488355328:=by
   have:(n+m)*i.bytes≤4096*1073741824:=Nat.mul_le_mul hnm2 hby
   omega
  obtain⟨r,w',ι',v,g1,g2,g3,g4⟩:=wr_apU (τ':=τ') (cs':=nthA l2) ho ha T hr.rel hx (Nat.pos_of_ne_zero hm) hpos e1' hτ hqn hlen h5 hL h6 hone hbig (by simp[IntKind.max,IntKind.signed,IntKind.bits];omega)
   (fun j hj=>by
    rw[k2 j hj,nth_ldL hj,vw_get (by omega)])
   (fun j hj=>k3 j)
  have hrk:=hr.put (hr.blt hE) (B:=.no) trivial hr.nx (Le.refl _) (hr.rel.kill b) (hr.sn.kill b);have g5:=g4.blk (B:=B) hBo.2.2;refine⟨r,w',ι',v,g1,g2,g3,hrk.put hnx hBo.1 hnx g4.le ?_ ?_,?_⟩
  ·rw[hp_put _ _ (hr.blt hE)];exact g5.rel
  ·rw[hp_put _ _ (hr.blt hE)];exact hr.sn.go g5
  ·show Go1 ι (hp h) w ι' (hp (put 7 nx _ (put 7 b .no h))) (nx+1) w';rw[hp_put _ _ hnx,hp_put _ _ (hr.blt hE)];exact g5
theorem ap2C_ok{C:AV→Tr Blk 7→Nat→Res}{ty:TypeId}{l:AV}{m:Nat}{h:Tr Blk 7}{nx b sz o q n c0:Nat}{qq:Option TypeId}{cs:Tr AV 2}{nb:Nat}{R:Res}(hB:get 7 b h=.s qq cs nb)(hin:appIn o n m sz nb (some c0)=false)(hnb:(o+n)*sz≤nb)(hL:lenL' l=some (m*sz))(hh:ap2C C ty l m h nx sz o n cs=R)(hR:R≠.fail):ApR P sz (.sl b sz o q n (some c0)) h nx l m C R (some ty):=by
 change ldN 2 cs (n*sz) (o*sz) _=R at hh;rw[ldN_to]at hh;obtain⟨l2,hcat,h2⟩:=catA_ok hh hR;obtain⟨B,n',hnx,hn',hBo,h4⟩:=newB_ok h2 hR;rw[fN_eq]at h4;refine⟨_,_,_,h4,fun ty' i z ι w ev op args ts x y ho ha T hsz hpos hby hty hr hx hs=>?_⟩;subst hsz;have hty':=hty ty rfl;subst hty';obtain⟨hlen,new,h5,h6⟩:=hs;obtain⟨E,hE,-⟩:=hx.sl;obtain⟨e1,hok⟩:=hr.at hE;have e1':hp h b=hv (get 7 b h):=e1;have hok1:bOk (get 7 b h):=hok;rw[hB]at e1' hok1;have hok':nb≤16:=hok1;have hqn:o*i.size+n*i.size≤nb:=by rw[←Nat.add_mul];exact hnb
 have hlo:lenL' (ldL 2 cs (n*i.size) (o*i.size))=some (n*i.size):=by unfold ldL;rw[lenL_mkL];simp
 obtain⟨k1,k2,k3⟩:=cat_len hcat hlo hL;have hnm:n*i.size+m*i.size=(n+m)*i.size:=(Nat.add_mul n m i.size).symm;have hn2:n'=(n+m)*i.size:=by have:=hBo.2.1;rw[k1,hnm]at this;exact(Option.some.inj this).symm
 subst hn2;have hnm2:n+m≤4096:=Nat.le_trans (Nat.le_mul_of_pos_right _ hpos) hn';have hbig:(n+m)*i.bytes≤140737488355328:=by
  have:(n+m)*i.bytes≤4096*1073741824:=Nat.mul_le_mul hnm2 hby
  omega
 have hlt:c0<n+m:=by
  have:Nat.ble (n+m) c0=false:=hin;rw[ble_dec]at this;simpa using this
 obtain⟨A,Cc,f1,old,f2,f3⟩:=src_sl (P:=P) hx hr.rel e1' (Nat.le_refl n) hqn;obtain⟨E',hE',-,-,f4⟩:=hx.sl;rw[f1]at f4;have hCc:Cc=c0:=by injection f4
 subst hCc;have hcatR:RL ι l2 (old++new).toList:=by
  rw[Array.toList_append];refine RL.cat hcat ?_ h6;unfold ldL;rw[map_vw (d:=2) (by omega)];exact f3
 rw[f1]at f2;exact St.new hr hnx hBo (wr_apNew ho ha T hr.rel f1 hlen f2 h5 hlt hbig (by simp[IntKind.max,IntKind.signed,IntKind.bits];omega) (by rw[k1,hnm]) hcatR)
theorem ap6I_ok{C:AV→Tr Blk 7→Nat→Res}{l:AV}{m:Nat}{h:Tr Blk 7}{nx b sz o q n:Nat}{c:Option Nat}{qq:Option TypeId}{cs:Tr AV 6}{nb:Nat}{R:Res}(hB:get 7 b h=.c qq cs nb)(hin:appIn o n m sz nb c=true)(hm:m≠0)(hone:oneL l=true)(hL:lenL' l=some (m*sz))(hh:ap6I C l m h nx b sz o q n c qq cs nb=R)(hR:R≠.fail):ApR P sz (.sl b sz o q n c) h nx l m C R:=by
 obtain⟨c1,h1⟩:=tst hR hh;have hle:(o+(n+m))*sz≤nb:=Nat.le_of_ble_eq_true c1;obtain⟨m',hl,h2⟩:=stN_to 6 h1 hR;rw[pw_put,fN_eq]at h2;refine⟨_,_,_,h2,fun el i z ι w ev op args ts x y ho ha T hsz hpos hby hty hr hx hs=>?_⟩;subst hsz;obtain⟨hlen,new,h3,h4⟩:=hs;obtain⟨E,hE,-⟩:=hx.sl;obtain⟨e1,hok⟩:=hr.at hE;have e1':hp h b=hv (get 7 b h):=e1;have hok1:bOk (get 7 b h):=hok;rw[hB]at e1' hok1;have hok':nb≤4096:=hok1;have hq:(o+n)*i.size+m*i.size≤nb:=by rw[←Nat.add_mul,Nat.add_assoc];exact hle
 refine St.wr hr (hr.blt hE) (B:=.c qq (sts 6 l ((o+n)*i.size) cs) nb) hok1 hr.nx ?_;exact wr_apIn ho ha T hr.rel hx (Nat.pos_of_ne_zero hm) hpos e1' hlen (h3 w rfl) hL h4 (vw_sts 6 hL (by omega) hone) hle fun c0 hc=>by subst hc;exact Nat.le_of_ble_eq_true hin
theorem ap6N_ok{C:AV→Tr Blk 7→Nat→Res}{ty:TypeId}{l:AV}{m:Nat}{h:Tr Blk 7}{nx b sz o q n:Nat}{qq:Option TypeId}{cs:Tr AV 6}{nb:Nat}{R:Res}(hB:get 7 b h=.c qq cs nb)(hm:m≠0)(hnb:(o+n)*sz≤nb)(hone:oneL l=true)(hL:lenL' l=some (m*sz))(hh:ap6N C ty l m h nx b sz o n qq cs=R)(hR:R≠.fail):ApR P sz (.sl b sz o q n none) h nx l m C R (some ty):=by
 change Bool.rec (motive:=fun _=>Res) _ _ _=R at hh;cases hc:and (and (Nat.beq o 0) (Nat.blt nx 16384)) (Nat.ble (Nat.mul (Nat.add n m) sz) 4096) with
 |true=>
  rw[hc]at hh;obtain⟨c0,c3⟩:=and_ok hc;obtain⟨c1,c2⟩:=and_ok c0;have ho0:o=0:=Nat.eq_of_beq_eq_true c1;subst ho0;have hnx:=blt_lt c2;have hle:(n+m)*sz≤4096:=Nat.le_of_ble_eq_true c3;obtain⟨m',hl,h2⟩:=stN_to 6 hh hR;rw[hL]at hl;cases hl;rw[fN_eq,pw_put]at h2;obtain⟨τ',hτ,h3⟩:=tyQ_ok h2 hR;rw[pw_put,fN_eq,fN_eq]at h3;refine⟨_,_,_,h3,fun ty' i z ι w ev op args ts x y ho ha T hsz hpos hby hty hr hx hs=>?_⟩;subst hsz;have hty':=hty ty rfl;subst hty';obtain⟨hlen,new,h4,h5⟩:=hs;obtain⟨E,hE,-⟩:=hx.sl;obtain⟨e1,hok⟩:=hr.at hE;have e1':hp h b=hv (get 7 b h):=e1;have hok1:bOk (get 7 b h):=hok;rw[hB]at e1' hok1;have hok':nb≤4096:=hok1;have hnm:n*i.size+m*i.size=(n+m)*i.size:=(Nat.add_mul n m i.size).symm;have hnn:(0+n)*i.size≤nb:=hnb;rw[Nat.zero_add]at hnn;have hnm2:n+m≤4096:=Nat.le_trans (Nat.le_mul_of_pos_right _ hpos) hle;have hbig:(n+m)*i.bytes≤140737488355328:=by
   have:(n+m)*i.bytes≤4096*1073741824:=Nat.mul_le_mul hnm2 hby
   omega
  obtain⟨r,w',ι',v,g1,g2,g3,g4⟩:=wr_apU (τ':=τ') (cs':=vw 6 (sts 6 l (n*i.size) cs)) ho ha T hr.rel hx (Nat.pos_of_ne_zero hm) hpos e1' hτ (by rw[Nat.zero_mul,Nat.zero_add];exact hnn) hlen h4 hL h5 hone hbig (by simp[IntKind.max,IntKind.signed,IntKind.bits];omega)
   (fun j hj=>by rw[vw_get (by omega),vw_get (by omega),get_sts 6 hL (by omega) (by omega),if_neg (by omega)];congr 1;omega)
   (fun j hj=>by rw[vw_get (by omega),get_sts 6 hL (by omega) (by omega),if_pos (by omega)];congr 1;omega)
  have hrk:=hr.put (hr.blt hE) (B:=.no) trivial hr.nx (Le.refl _) (hr.rel.kill b) (hr.sn.kill b);have hfin:hv (.c τ' (sts 6 l (n*i.size) cs) (n*i.size+m*i.size))=.c τ' (vw 6 (sts 6 l (n*i.size) cs)) ((n+m)*i.size):=by rw[hnm];rfl
  refine⟨r,w',ι',v,g1,g2,g3,hrk.put hnx (B:=.c τ' (sts 6 l (n*i.size) cs) (n*i.size+m*i.size)) (by show _≤_;rw[hnm];exact hle) hnx g4.le ?_ ?_,?_⟩
  ·rw[hp_put _ _ (hr.blt hE),hfin];exact g4.rel
  ·rw[hp_put _ _ (hr.blt hE),hfin];exact hr.sn.go g4
  ·show Go1 ι (hp h) w ι' (hp (put 7 nx (.c τ' (sts 6 l (n*i.size) cs) (n*i.size+m*i.size)) (put 7 b .no h))) (nx+1) w';rw[hp_put _ _ hnx,hp_put _ _ (hr.blt hE),hfin];exact g4
 |false=>
  rw[hc]at hh;change ldN 6 cs (n*sz) (o*sz) _=R at hh;rw[ldN_to]at hh;obtain⟨l2,hcat,h2⟩:=catA_ok hh hR;rw[pw_put]at h2;obtain⟨τ',hτ,h3⟩:=tyQ_ok h2 hR;obtain⟨B,n',hnx,hn',hBo,h4⟩:=newB_ok h3 hR;rw[fN_eq]at h4;refine⟨_,_,_,h4,fun ty' i z ι w ev op args ts x y ho ha T hsz hpos hby hty hr hx hs=>?_⟩;subst hsz;have hty':=hty ty rfl;subst hty';obtain⟨hlen,new,h5,h6⟩:=hs;obtain⟨E,hE,-⟩:=hx.sl;obtain⟨e1,hok⟩:=hr.at hE;have e1':hp h b=hv (get 7 b h):=e1;have hok1:bOk (get 7 b h):=hok;rw[hB]at e1' hok1;have hok':nb≤4096:=hok1;have hqn:o*i.size+n*i.size≤nb:=by rw[←Nat.add_mul];exact hnb
  have hlo:lenL' (ldL 6 cs (n*i.size) (o*i.size))=some (n*i.size):=by unfold ldL;rw[lenL_mkL];simp
  obtain⟨k1,k2,k3⟩:=cat_len hcat hlo hL;have hnm:n*i.size+m*i.size=(n+m)*i.size:=(Nat.add_mul n m i.size).symm;have hn2:n'=(n+m)*i.size:=by have:=hBo.2.1;rw[k1,hnm]at this;exact(Option.some.inj this).symm
  subst hn2;have hnm2:n+m≤4096:=Nat.le_trans (Nat.le_mul_of_pos_right _ hpos) hn';have hbig:(n+m)*i.bytes≤140737488355328:=by
   have:(n+m)*i.bytes≤4096*1073741824:=Nat.mul_le_mul hnm2 hby
   omega
  obtain⟨r,w',ι',v,g1,g2,g3,g4⟩:=wr_apU (τ':=τ') (cs':=nthA l2) ho ha T hr.rel hx (Nat.pos_of_ne_zero hm) hpos e1' hτ hqn hlen h5 hL h6 hone hbig (by simp[IntKind.max,IntKind.signed,IntKind.bits];omega)
   (fun j hj=>by
    rw[k2 j hj,nth_ldL hj,vw_get (by omega)])
   (fun j hj=>k3 j)
  have hrk:=hr.put (hr.blt hE) (B:=.no) trivial hr.nx (Le.refl _) (hr.rel.kill b) (hr.sn.kill b);have g5:=g4.blk (B:=B) hBo.2.2;refine⟨r,w',ι',v,g1,g2,g3,hrk.put hnx hBo.1 hnx g4.le ?_ ?_,?_⟩
  ·rw[hp_put _ _ (hr.blt hE)];exact g5.rel
  ·rw[hp_put _ _ (hr.blt hE)];exact hr.sn.go g5
  ·show Go1 ι (hp h) w ι' (hp (put 7 nx _ (put 7 b .no h))) (nx+1) w';rw[hp_put _ _ hnx,hp_put _ _ (hr.blt hE)];exact g5
theorem ap6C_ok{C:AV→Tr Blk 7→Nat→Res}{ty:TypeId}{l:AV}{m:Nat}{h:Tr Blk 7}{nx b sz o q n c0:Nat}{qq:Option TypeId}{cs:Tr AV 6}{nb:Nat}{R:Res}(hB:get 7 b h=.c qq cs nb)(hin:appIn o n m sz nb (some c0)=false)(hnb:(o+n)*sz≤nb)(hL:lenL' l=some (m*sz))(hh:ap6C C ty l m h nx sz o n cs=R)(hR:R≠.fail):ApR P sz (.sl b sz o q n (some c0)) h nx l m C R (some ty):=by
 change ldN 6 cs (n*sz) (o*sz) _=R at hh;rw[ldN_to]at hh;obtain⟨l2,hcat,h2⟩:=catA_ok hh hR;obtain⟨B,n',hnx,hn',hBo,h4⟩:=newB_ok h2 hR;rw[fN_eq]at h4;refine⟨_,_,_,h4,fun ty' i z ι w ev op args ts x y ho ha T hsz hpos hby hty hr hx hs=>?_⟩;subst hsz;have hty':=hty ty rfl;subst hty';obtain⟨hlen,new,h5,h6⟩:=hs;obtain⟨E,hE,-⟩:=hx.sl;obtain⟨e1,hok⟩:=hr.at hE;have e1':hp h b=hv (get 7 b h):=e1;have hok1:bOk (get 7 b h):=hok;rw[hB]at e1' hok1;have hok':nb≤4096:=hok1;have hqn:o*i.size+n*i.size≤nb:=by rw[←Nat.add_mul];exact hnb
 have hlo:lenL' (ldL 6 cs (n*i.size) (o*i.size))=some (n*i.size):=by unfold ldL;rw[lenL_mkL];simp
 obtain⟨k1,k2,k3⟩:=cat_len hcat hlo hL;have hnm:n*i.size+m*i.size=(n+m)*i.size:=(Nat.add_mul n m i.size).symm;have hn2:n'=(n+m)*i.size:=by have:=hBo.2.1;rw[k1,hnm]at this;exact(Option.some.inj this).symm
 subst hn2;have hnm2:n+m≤4096:=Nat.le_trans (Nat.le_mul_of_pos_right _ hpos) hn';have hbig:(n+m)*i.bytes≤140737488355328:=by
  have:(n+m)*i.bytes≤4096*1073741824:=Nat.mul_le_mul hnm2 hby
  omega
 have hlt:c0<n+m:=by
  have:Nat.ble (n+m) c0=false:=hin;rw[ble_dec]at this;simpa using this
 obtain⟨A,Cc,f1,old,f2,f3⟩:=src_sl (P:=P) hx hr.rel e1' (Nat.le_refl n) hqn;obtain⟨E',hE',-,-,f4⟩:=hx.sl;rw[f1]at f4;have hCc:Cc=c0:=by injection f4
 subst hCc;have hcatR:RL ι l2 (old++new).toList:=by
  rw[Array.toList_append];refine RL.cat hcat ?_ h6;unfold ldL;rw[map_vw (d:=6) (by omega)];exact f3
 rw[f1]at f2;exact St.new hr hnx hBo (wr_apNew ho ha T hr.rel f1 hlen f2 h5 hlt hbig (by simp[IntKind.max,IntKind.signed,IntKind.bits];omega) (by rw[k1,hnm]) hcatR)
end Go.Proofs.YtglihimiidiacaaGreatDoor.Ev8
namespace Go.Proofs.YtglihimiidiacaaGreatDoor.Ev8
open Go
variable {P:Program} {ι ι':Io}
theorem apS_ok{C:AV→Tr Blk 7→Nat→Res}{ty:TypeId}{s0:Nat}{l:AV}{m:Nat}{h:Tr Blk 7}{nx b sz o q n:Nat}{c:Option Nat}{R:Res}(hm:m≠0)(hL:lenL' l=some (m*s0))(hh:apS C ty s0 l m h nx b sz o q n c=R)(hR:R≠.fail):ApR P s0 (.sl b sz o q n c) h nx l m C R (some ty):=by
 obtain⟨c0,h1⟩:=tst hR hh;have he:sz=s0:=Nat.eq_of_beq_eq_true c0;subst he;obtain⟨h2,hone⟩:=chkL_ok h1 hR;rcases row_ok (B:=get 7 b h) hR h2 with⟨τ,cs,nb,h3,hB⟩|⟨τ,cs,nb,h3,hB⟩
 ·change Bool.rec (motive:=fun _=>Res) (Bool.rec (motive:=fun _=>Res) .fail (Option.rec (motive:=fun _=>Res) (ap2N C ty l m h nx b sz o n τ cs) (fun _=>ap2C C ty l m h nx sz o n cs) c) (Nat.ble (Nat.mul (Nat.add o n) sz) nb)) (ap2I C l m h nx b sz o q n c τ cs nb) (appIn o n m sz nb c)=R at h3;cases hin:appIn o n m sz nb c with
  |true=>
   rw[hin]at h3;obtain⟨u,h',nx',k1,k2⟩:=ap2I_ok (P:=P) hB hin hm hone hL h3 hR;exact⟨u,h',nx',k1,fun el i z ι w ev o args ts x y a1 a2 a3 a4 a5 a6 _=>k2 el i z ι w ev o args ts x y a1 a2 a3 a4 a5 a6 (fun t ht=>by cases ht)⟩
  |false=>
   rw[hin]at h3;obtain⟨c1,h4⟩:=tst hR h3;have hnb:(o+n)*sz≤nb:=Nat.le_of_ble_eq_true c1;cases c with
   |none=>exact ap2N_ok hB hm hnb hone hL h4 hR
   |some c0=>exact ap2C_ok hB hin hnb hL h4 hR
 ·change Bool.rec (motive:=fun _=>Res) (Bool.rec (motive:=fun _=>Res) .fail (Option.rec (motive:=fun _=>Res) (ap6N C ty l m h nx b sz o n τ cs) (fun _=>ap6C C ty l m h nx sz o n cs) c) (Nat.ble (Nat.mul (Nat.add o n) sz) nb)) (ap6I C l m h nx b sz o q n c τ cs nb) (appIn o n m sz nb c)=R at h3;cases hin:appIn o n m sz nb c with
  |true=>
   rw[hin]at h3;obtain⟨u,h',nx',k1,k2⟩:=ap6I_ok (P:=P) hB hin hm hone hL h3 hR;exact⟨u,h',nx',k1,fun el i z ι w ev o args ts x y a1 a2 a3 a4 a5 a6 _=>k2 el i z ι w ev o args ts x y a1 a2 a3 a4 a5 a6 (fun t ht=>by cases ht)⟩
  |false=>
   rw[hin]at h3;obtain⟨c1,h4⟩:=tst hR h3;have hnb:(o+n)*sz≤nb:=Nat.le_of_ble_eq_true c1;cases c with
   |none=>exact ap6N_ok hB hm hnb hone hL h4 hR
   |some c0=>exact ap6C_ok hB hin hnb hL h4 hR
theorem nil_of_len{l:AV}{ws:List Value}(hl:lenL' l=some 0)(h:RL ι l ws):ws=[]:=by
 have:=(RL.len hl h).1;exact List.eq_nil_of_length_eq_zero this
theorem St.of_wr{H:HS}{w:World}{ev:Operand→Value}{o:Oper}{u:AV}(hr:HR ι H w)(hw:Wr P ι (hp H.h) w ev o u (hp H.h) H.nx):St P ι H w ev o u H:=by
 obtain⟨r,w',ι',v,h1,h2,h3,h4⟩:=hw;exact⟨r,w',ι',v,h1,h2,h3,⟨h4.rel,hr.ok,hr.nx,hr.gl.le h4.le,hr.sn.go h4⟩,h4⟩
theorem apG_ok{C:AV→Tr Blk 7→Nat→Res}{ty:TypeId}{s0:Nat}{s:AV}{h:Tr Blk 7}{nx:Nat}{l:AV}{m:Nat}{R:Res}(hL:lenL' l=some (m*s0))(hh:apG C ty s0 s h nx l m=R)(hR:R≠.fail):ApR P s0 s h nx l m C R (some ty):=by
 change Bool.rec (motive:=fun _=>Res) (apA C ty s0 l m h nx s) (slK s (C s h nx)) (Nat.beq m 0)=R at hh;cases hm:Nat.beq m 0 with
 |true=>
  rw[hm]at hh;have hm0:m=0:=Nat.eq_of_beq_eq_true hm;subst hm0;rw[Nat.zero_mul]at hL;change slK s (C s h nx)=R at hh;cases s with
  |v x=>
   obtain⟨c1,h1⟩:=tst hR hh;have hx:=isNilS_eq c1;subst hx;refine⟨_,_,_,h1,fun el i z ι w ev o args ts x y ho ha T hsz hpos hby hty hr hx hs=>?_⟩;subst hsz;obtain⟨hlen,new,h3,h4⟩:=hs;have hn:new=#[]:=by apply Array.toList_inj.1;rw[nil_of_len hL h4]
   subst hn;exact St.of_wr hr (wr_ap0 ho ha T hr.rel (base:=none) (n:=0) (cap:=0) hx.vv (fun a h=>by cases h) (Nat.le_refl 0) hlen (h3 w rfl) hx)
  |sl b e o k n c=>
   refine⟨_,_,_,hh,fun el i z ι w ev o' args ts x y ho ha T hsz hpos hby hty hr hx hs=>?_⟩;subst hsz;obtain⟨hlen,new,h3,h4⟩:=hs;have hn:new=#[]:=by apply Array.toList_inj.1;rw[nil_of_len hL h4]
   subst hn;obtain⟨E,hE,h5,-,h6⟩:=hx.sl;exact St.of_wr hr (wr_ap0 ho ha T hr.rel h6 (fun a ha=>by cases ha;rfl) h5 hlen (h3 w rfl) hx)
  |_=>exact absurd hh.symm hR
 |false=>
  rw[hm]at hh;have hm0:m≠0:=Nat.ne_of_beq_eq_false hm;change apA C ty s0 l m h nx s=R at hh;cases s with
  |v x=>
   obtain⟨c1,h1⟩:=tst hR hh;have hx:=isNilS_eq c1;subst hx;obtain⟨B,n',hnx,hn',hBo,h4⟩:=newB_ok h1 hR;refine⟨_,_,_,h4,fun el i z ι w ev o args ts x y ho ha T hsz hpos hby hty hr hx hs=>?_⟩;have hty':=hty ty rfl;subst hty';subst hsz;obtain⟨hlen,new,h5,h6⟩:=hs;have hn2:n'=(0+m)*i.size:=by have:=hBo.2.1;rw[hL]at this;rw[Nat.zero_add];exact(Option.some.inj this).symm
   subst hn2;have hnm2:0+m≤4096:=Nat.le_trans (Nat.le_mul_of_pos_right _ hpos) hn';have hbig:(0+m)*i.bytes≤140737488355328:=by
    have:(0+m)*i.bytes≤4096*1073741824:=Nat.mul_le_mul hnm2 hby
    omega
   have:=wr_apNew (n:=0) (cap:=0) (base:=none) (old:=#[]) ho ha T hr.rel hx.vv hlen (fun w' _=>rfl) h5 (by omega) hbig (by simp[IntKind.max,IntKind.signed,IntKind.bits];omega) (by rw[Nat.zero_add];exact hL) (by simpa using h6);have:=St.new hr hnx hBo this;rw[Nat.zero_add]at this;exact this
  |sl b e o k n c=>exact apS_ok hm0 hL hh hR
  |_=>exact absurd hh.symm hR
theorem ap_types{ti:TT}(T:TyOk P ti){t el:TypeId}{ts:List TypeId}{tsA:Array TypeId}(hts:tsA.toList=t::ts)(hg:∀u∈tsA.toList,gT u=true)(hn:noInt ti ts=true)(he:elT ti t=some el):∃z,ApT P tsA el (tI ti el) z:=by
 have hgt:gT t=true:=hg t (by rw[hts];exact List.mem_cons_self ..);have hu:und ti t=.slice el:=by
  unfold elT at he;cases h:und ti t with
  |slice e=>rw[h]at he;simp only[Option.some.injEq]at he;rw[he]
  |_=>rw[h]at he;cases he
 have hel:=T.sl t el hgt hu;obtain⟨z,hz1,hz2,hz3⟩:=T.zero el hel;have e0:tsA[0]?=some t:=by rw[←Array.getElem?_toList,hts];rfl
 refine⟨z,⟨t,e0,by rw[T.und t hgt,hu]⟩,fun u hu1=>?_,T.info el hel,hz1,hz2⟩;have hu2:u∈ts:=by
  rw[←Array.getElem?_toList,hts]at hu1;exact List.mem_of_getElem? (i:=0) hu1
 have hgu:gT u=true:=hg u (by rw[hts];exact List.mem_cons_of_mem _ hu2);refine⟨_,T.und u hgu,fun k hk=>?_⟩;have:=List.all_eq_true.1 hn u hu2;unfold intT at this;rw[hk]at this;cases this
theorem call_ops{c:Call}{o:Oper}(ho:o.op=.call c){b:Builtin}(hb:c.callee=.builtin b){x:Operand}(hx:x∈c.args.toList):x∈o.op.operands.toList:=by
 rw[ho];simp only[Op.operands,Call.operands,hb];simpa using hx
theorem ok_app{o:Oper}{s:Sx}(T:TyOk P s.ti){args:Array Operand}{tsA:Array TypeId}{x y:Operand}(ho:o.op=.call {callee:=.builtin .append,args:=args,argTypes:=tsA})(ha:args=#[x,y]){t el:TypeId}{ts:List TypeId}(hts:tsA.toList=t::ts)(hg:∀u∈tsA.toList,gT u=true)(hn:noInt s.ti ts=true)(he:elT s.ti t=some el):OpB P o s fun k=>⟨appF el (tI s.ti el).size (opd s x) (opd s y) k⟩:=by
 intro K X e tm H θ R hO hR h;obtain⟨hh,nx⟩:=H;change Option.rec (motive:=fun _=>Res) (srcC (tI s.ti el).size hh ((opd s y).f e tm) none (apG (fun v h nx=>K.f X (.c v e) tm ⟨h,nx⟩) el (tI s.ti el).size ((opd s x).f e tm) hh nx)) (fun a=>apO (fun v h nx=>K.f X (.c v e) tm ⟨h,nx⟩) (tI s.ti el).size ((opd s x).f e tm) hh nx a) (txtA ((opd s y).f e tm))=R at h;obtain⟨z,Ta⟩:=ap_types T hts hg hn he;have hel:gT el=true:=by
  have hgt:gT t=true:=hg t (by rw[hts];exact List.mem_cons_self ..);unfold elT at he;cases hu:und s.ti t with
  |slice e=>rw[hu]at he;simp only[Option.some.injEq]at he;subst he;exact T.sl t e hgt hu
  |_=>rw[hu]at he;cases he
 cases htx:txtA ((opd s y).f e tm) with
 |some a'=>
  rw[htx]at h;change apO (fun v h nx=>K.f X (.c v e) tm ⟨h,nx⟩) (tI s.ti el).size ((opd s x).f e tm) hh nx a'=R at h;have hg':∃g j,isTx g=true∧a'=.r g j∧(opd s y).f e tm=.r g j:=by
   unfold txtA at htx;split at htx
   ·rename_i g j hq
    cases ht:isTx g with
    |false=>rw[ht]at htx;cases htx
    |true=>rw[ht]at htx;cases htx;exact⟨g,j,ht,rfl,hq⟩
   ·cases htx
  obtain⟨g,j,hgt,rfl,hy⟩:=hg';cases hp:(opd s x).f e tm with
  |v xv=>
   rw[hp]at h;obtain⟨c1,h1⟩:=tst hR h;obtain⟨c2,h2⟩:=iB_ok hR h1;obtain⟨c3,c4⟩:=and_ok c2;rw[pw_put,fN_eq]at h2;have hnx:=blt_lt c4;refine⟨_,_,h2,fun ι a w hr hx=>?_⟩;have f1:=hO.rv (hx x (by rw[ho,ha];simp[Op.operands,Call.operands]));have f2:=hO.rv (hx y (by rw[ho,ha];simp[Op.operands,Call.operands]));rw[hp]at f1;rw[hy]at f2;obtain⟨E,-,e2⟩:=RV.tx hgt f2;have hsz:=decB_size (g-40) (opX E);have hs:(decB (dbl (g-40) (opX E))).size=(Lib.itoa (dbl (g-40) (opX E))).length:=by rw[←decB_list];rfl
   exact St.wr hr hnx (B:=.o (.r g j)) trivial (by show nx+1≤16384;omega) (wr_apO ho ha Ta (Nat.eq_of_beq_eq_true c3) (T.byt el hel) hr.rel (by rw[f1.vv];exact isNilS_eq c1) e2 (by rw[←e2];exact f2) (by omega) (by omega))
  |_=>rw[hp]at h;exact absurd h.symm hR
 |none=>
  rw[htx]at h;change srcC (tI s.ti el).size hh ((opd s y).f e tm) none (apG (fun v h nx=>K.f X (.c v e) tm ⟨h,nx⟩) el (tI s.ti el).size ((opd s x).f e tm) hh nx)=R at h;obtain⟨L,l,h1,h2,h3⟩:=srcC_ok (P:=P) h hR;obtain⟨u,h',nx',h4,h5⟩:=apG_ok (P:=P) h2 h1 hR;refine⟨u,_,h4,fun ι a w hr hx=>?_⟩;have f1:=hO.rv (hx x (by rw[ho,ha];simp[Op.operands,Call.operands]));have f2:=hO.rv (hx y (by rw[ho,ha];simp[Op.operands,Call.operands]));exact h5 el _ z ι w a.eval o args tsA x y ho ha Ta rfl (T.pos el hel) (T.byt el hel) (fun t ht=>(Option.some.inj ht).symm) hr f1 (h3 ι w nx _ hr f2)
end Go.Proofs.YtglihimiidiacaaGreatDoor.Ev8
namespace Go.Proofs.YtglihimiidiacaaGreatDoor.Ev8
open Go
variable {P:Program} {ι ι':Io}
theorem mst_min(n L:Nat):mst (some n) L=Nat.min L n:=by
 show(bif Nat.ble L n then L else n)=_;rw[ble_dec];by_cases h:L≤n
 ·simp[h,Nat.min_eq_left h]
 ·simp[h,Nat.min_eq_right (by omega:n≤L)]
theorem ok_cpy{o:Oper}{s:Sx}(T:TyOk P s.ti){args:Array Operand}{tsA:Array TypeId}{x y:Operand}(ho:o.op=.call {callee:=.builtin .copy,args:=args,argTypes:=tsA})(ha:args=#[x,y]){t el:TypeId}{ts:List TypeId}(hts:tsA.toList=t::ts)(hg:∀u∈tsA.toList,gT u=true)(he:elT s.ti t=some el):OpB P o s fun k=>⟨cpyF (tI s.ti el).size (opd s x) (opd s y) k⟩:=by
 intro K X e tm H θ R hO hR h;obtain⟨hh,nx⟩:=H;have hgt:gT t=true:=hg t (by rw[hts];exact List.mem_cons_self ..);have hu:und s.ti t=.slice el:=by
  unfold elT at he;cases h:und s.ti t with
  |slice e=>rw[h]at he;simp only[Option.some.injEq]at he;rw[he]
  |_=>rw[h]at he;cases he
 have hel:=T.sl t el hgt hu;have e0:tsA[0]?=some t:=by rw[←Array.getElem?_toList,hts];rfl
 change cpG (fun v h=>K.f X (.c v e) tm ⟨h,nx⟩) (tI s.ti el).size hh ((opd s y).f e tm) ((opd s x).f e tm)=R at h;cases hp:(opd s x).f e tm with
 |sl b sz q k n c=>
  rw[hp]at h;obtain⟨c0,h1⟩:=tst hR h;obtain⟨c1,c2⟩:=and_ok c0;have hsz:sz=(tI s.ti el).size:=Nat.eq_of_beq_eq_true c1;have hn9:n≤9223372036854775807:=Nat.le_of_ble_eq_true c2;obtain⟨L,l,h2,h3,h4⟩:=srcC_ok (P:=P) h1 hR;obtain⟨h5,hone⟩:=chkL_ok h2 hR;rw[mst_min]at h3 h4 h5;rcases row_ok (B:=get 7 b hh) hR h5 with⟨τ,cs,nb,h6,hB⟩|⟨τ,cs,nb,h6,hB⟩
  ·obtain⟨c3,h7⟩:=tst hR h6;obtain⟨m',hl,h8⟩:=stN_to 2 h7 hR;rw[pw_put]at h8;refine⟨_,_,h8,fun ι a w hr hx=>?_⟩;have f1:=hO.rv (hx x (by rw[ho,ha];simp[Op.operands,Call.operands]));have f2:=hO.rv (hx y (by rw[ho,ha];simp[Op.operands,Call.operands]));rw[hp]at f1;subst hsz;obtain⟨hlen,new,g1,g2⟩:=h4 ι w nx _ hr f2;obtain⟨E,hE,-⟩:=f1.sl;obtain⟨e1,hok⟩:=hr.at hE;have e1':Ev8.hp hh b=hv (get 7 b hh):=e1;have hok1:bOk (get 7 b hh):=hok;rw[hB]at e1' hok1;have hok':nb≤16:=hok1;have hle:q*(tI s.ti el).size+Nat.min L n*(tI s.ti el).size≤nb:=Nat.le_of_ble_eq_true c3;have hmn:Nat.min L n≤n:=Nat.min_le_right L n;refine St.wr hr (hr.blt hE) (B:=.s τ (sts 2 l (q*(tI s.ti el).size) cs) nb) hok1 hr.nx ?_;exact wr_cpy ho ha e0 (by rw[T.und t hgt,hu]) (T.sizeOf hel) hr.rel f1 e1' hlen rfl (by omega) (g1 w rfl) h3 g2 (vw_sts 2 h3 (by omega) hone) hle
  ·obtain⟨c3,h7⟩:=tst hR h6;obtain⟨m',hl,h8⟩:=stN_to 6 h7 hR;rw[pw_put]at h8;refine⟨_,_,h8,fun ι a w hr hx=>?_⟩;have f1:=hO.rv (hx x (by rw[ho,ha];simp[Op.operands,Call.operands]));have f2:=hO.rv (hx y (by rw[ho,ha];simp[Op.operands,Call.operands]));rw[hp]at f1;subst hsz;obtain⟨hlen,new,g1,g2⟩:=h4 ι w nx _ hr f2;obtain⟨E,hE,-⟩:=f1.sl;obtain⟨e1,hok⟩:=hr.at hE;have e1':Ev8.hp hh b=hv (get 7 b hh):=e1;have hok1:bOk (get 7 b hh):=hok;rw[hB]at e1' hok1;have hok':nb≤4096:=hok1;have hle:q*(tI s.ti el).size+Nat.min L n*(tI s.ti el).size≤nb:=Nat.le_of_ble_eq_true c3;have hmn:Nat.min L n≤n:=Nat.min_le_right L n;refine St.wr hr (hr.blt hE) (B:=.c τ (sts 6 l (q*(tI s.ti el).size) cs) nb) hok1 hr.nx ?_;exact wr_cpy ho ha e0 (by rw[T.und t hgt,hu]) (T.sizeOf hel) hr.rel f1 e1' hlen rfl (by omega) (g1 w rfl) h3 g2 (vw_sts 6 h3 (by omega) hone) hle
 |_=>rw[hp]at h;exact absurd h.symm hR
theorem isQ_ok{ty:TypeId}{qq:Option TypeId}{C:Unit→Res}{R:Res}(h:isQ ty qq C=R)(hR:R≠.fail):qq=some ty∧C ()=R:=by
 cases qq with
 |none=>exact absurd h.symm hR
 |some u=>
  obtain⟨c,h1⟩:=tst hR h;exact⟨by rw[Nat.eq_of_beq_eq_true c],h1⟩
theorem usO_ok{C:AV→Tr Blk 7→Res}{n:Nat}{h:Tr Blk 7}{b:Nat}{r:Option Nat}{R:Res}(hh:usO C n h b r=R)(hR:R≠.fail):∃q,r=some q∧C (.s n q) (put 7 b .no h)=R:=by
 cases r with
 |none=>exact absurd hh.symm hR
 |some q=>
  change fN q (fun r=>(pw Blk 7 b).f .no h fun h=>C (.s n r) h)=R at hh;rw[fN_eq,pw_put]at hh;exact⟨q,rfl,hh⟩
theorem ok_us{o:Oper}{s:Sx}(T:TyOk P s.ti){args:Array Operand}{tsA:Array TypeId}{x y:Operand}(ho:o.op=.call {callee:=.builtin .unsafeString,args:=args,argTypes:=tsA})(ha:args=#[x,y]){t el:TypeId}{ts:List TypeId}(hts:tsA.toList=t::ts)(hg:∀u∈tsA.toList,gT u=true)(he:ptT s.ti t=some el)(h1c:(tI s.ti el).size=1):OpB P o s fun k=>⟨usF el (opd s x) (opd s y) k⟩:=by
 intro K X e tm H θ R hO hR h;obtain⟨hh,nx⟩:=H;have hgt:gT t=true:=hg t (by rw[hts];exact List.mem_cons_self ..);have hu:und s.ti t=.pointer el:=by
  unfold ptT at he;cases h:und s.ti t with
  |pointer e=>rw[h]at he;simp only[Option.some.injEq]at he;rw[he]
  |_=>rw[h]at he;cases he
 have e0:tsA[0]?=some t:=by rw[←Array.getElem?_toList,hts];rfl
 have hc1:P.cellsOf el=1:=by rw[T.pt t el hgt hu,h1c]
 obtain⟨kk,n,e2,h1⟩:=aN_ok h hR;change usG (fun v h=>K.f X (.c v e) tm ⟨h,nx⟩) el hh n ((opd s x).f e tm)=R at h1;cases hp:(opd s x).f e tm with
 |ptr b q=>
  rw[hp]at h1;obtain⟨c0,h2⟩:=tst hR h1;have hq:q=0:=Nat.eq_of_beq_eq_true c0;subst hq;rcases row_ok (B:=get 7 b hh) hR h2 with⟨τ,cs,nb,h3,hB⟩|⟨τ,cs,nb,h3,hB⟩
  ·obtain⟨c1,h4⟩:=tst hR h3;obtain⟨c2,c3⟩:=and_ok c1;obtain⟨hτ,h5⟩:=isQ_ok h4 hR;subst hτ;rw[ldN_to]at h5;obtain⟨r,h6,h7⟩:=usO_ok h5 hR;refine⟨_,_,h7,fun ι a w hr hx=>?_⟩;have f1:=hO.rv (hx x (by rw[ho,ha];simp[Op.operands,Call.operands]));have f2:=hO.rv (hx y (by rw[ho,ha];simp[Op.operands,Call.operands]));rw[hp]at f1;rw[e2]at f2;obtain⟨E,hE,-⟩:=f1.ptr;obtain⟨e1,hok⟩:=hr.at hE;have e1':Ev8.hp hh b=hv (get 7 b hh):=e1;have hok1:bOk (get 7 b hh):=hok;rw[hB]at e1' hok1;have hok':nb≤16:=hok1;have hnb:n≤nb:=Nat.le_of_ble_eq_true c3;have hn0:n≠0:=by have:=blt_lt c2;omega
   refine St.wr hr (hr.blt hE) (B:=.no) trivial hr.nx ?_;refine wr_us ho ha e0 (by rw[T.und t hgt,hu]) hc1 hr.rel f1 f2 e1' hn0 hnb (by omega) ?_;rw[←h6];unfold ldL;rw[map_vw (d:=2) (by omega)]
  ·obtain⟨c1,h4⟩:=tst hR h3;obtain⟨c2,c3⟩:=and_ok c1;obtain⟨hτ,h5⟩:=isQ_ok h4 hR;subst hτ;rw[ldN_to]at h5;obtain⟨r,h6,h7⟩:=usO_ok h5 hR;refine⟨_,_,h7,fun ι a w hr hx=>?_⟩;have f1:=hO.rv (hx x (by rw[ho,ha];simp[Op.operands,Call.operands]));have f2:=hO.rv (hx y (by rw[ho,ha];simp[Op.operands,Call.operands]));rw[hp]at f1;rw[e2]at f2;obtain⟨E,hE,-⟩:=f1.ptr;obtain⟨e1,hok⟩:=hr.at hE;have e1':Ev8.hp hh b=hv (get 7 b hh):=e1;have hok1:bOk (get 7 b hh):=hok;rw[hB]at e1' hok1;have hok':nb≤4096:=hok1;have hnb:n≤nb:=Nat.le_of_ble_eq_true c3;have hn0:n≠0:=by have:=blt_lt c2;omega
   refine St.wr hr (hr.blt hE) (B:=.no) trivial hr.nx ?_;refine wr_us ho ha e0 (by rw[T.und t hgt,hu]) hc1 hr.rel f1 f2 e1' hn0 hnb (by omega) ?_;rw[←h6];unfold ldL;rw[map_vw (d:=6) (by omega)]
 |_=>rw[hp]at h1;exact absurd h1.symm hR
end Go.Proofs.YtglihimiidiacaaGreatDoor.Ev8
namespace Go.Proofs.YtglihimiidiacaaGreatDoor.Ev8
open Go
variable {P:Program} {ι ι':Io}
def TL(t:TM)(l:AV)(n:Nat):Prop:=∀i,i<72→tget i t=if i<n then nthA l i else .un
def TA(ι:Io)(t:TM)(args:Array Value):Prop:=∀i,i<72→(∀u,args[i]?=some u→RV ι (tget i t) u)∧(args[i]?=none→tget i t=.un)
theorem TL.ta{t:TM}{l:AV}{n:Nat}{vs:List Value}(h:TL t l n)(hl:lenL' l=some n)(hr:RL ι l vs):TA ι t vs.toArray:=by
 obtain⟨h1,h2⟩:=RL.len hl hr;intro i hi;rw[h i hi];constructor
 ·intro u hu;have hu':vs[i]?=some u:=by simpa using hu
  have hlt:i<n:=by
   have:=(List.getElem?_eq_some_iff.1 hu').1;omega
  rw[if_pos hlt];obtain⟨v,hv,hR⟩:=h2 i hlt;rw[hu']at hv;cases hv;exact hR
 ·intro hn;have hn':vs[i]?=none:=by simpa using hn
  have:=List.getElem?_eq_none_iff.1 hn';rw[if_neg (by omega)]
theorem tget_e(i:Nat):tget i eT=.un:=by
 match i with
 |0|1|2|3|4|5|6|7=>rfl
 |i+8=>exact get_e (AV.un) 3 i
theorem putT_ok:∀{l:AV} {n:Nat} {tm:TM} {C:TM→Res} {R:Res},putT l n tm C=R→R≠.fail→∃t len,lenL' l=some len∧C t=R∧(n+len≤72→∀i,i<72→tget i t=if n≤i∧i<n+len then nthA l (i-n) else tget i tm):=by
 intro l;induction l with
 |nil=>intro n tm C R h hR;exact⟨tm,0,rfl,h,fun _ i hi=>by rw[if_neg (by omega)]⟩
 |cons x l _ ih=>
  intro n tm C R h hR;change (tw n).p x tm (fun tm=>putT l (Nat.succ n) tm C)=R at h;rw[tw_put]at h;obtain⟨t,len,h1,h2,h3⟩:=ih h hR;refine⟨t,len+1,by simp[lenL',h1],h2,fun hle i hi=>?_⟩;rw[h3 (by simp only[Nat.succ_eq_add_one];omega) i hi];simp only[Nat.succ_eq_add_one];by_cases e:i=n
  ·subst e;rw[if_neg (by omega),if_pos (by omega),tget_tput];simp[nthA]
  ·rw[tget_ne x tm (by omega) hi (Ne.symm e)];by_cases hin:n+1≤i∧i<n+1+len
   ·rw[if_pos hin,if_pos (by omega),show i-n=(i-(n+1))+1 by omega];rfl
   ·rw[if_neg hin,if_neg (by omega)]
 |_=>intro n tm C R h hR;exact absurd h.symm hR
theorem tmL_ok{l:AV}{C:TM→Res}{R:Res}(h:tmL l C=R)(hR:R≠.fail):∃t n,C t=R∧lenL' l=some n∧TL t l n:=by
 obtain⟨c,h1⟩:=iB_ok hR h;obtain⟨t,n,h2,h3,h4⟩:=putT_ok h1 hR;have hn:n≤72:=by rw[←lenA_of h2];exact Nat.le_of_ble_eq_true c
 refine⟨t,n,h3,h2,fun i hi=>?_⟩;rw[h4 (by omega) i hi,tget_e];by_cases hin:i<n
 ·rw[if_pos (by omega),if_pos hin];rfl
 ·rw[if_neg (by omega),if_neg hin]
theorem len_gL(l:List OW)(e:E)(tm:TM):lenL' (gL l e tm)=some l.length:=by rw[gL_eq,lenL_mkL];simp
theorem mkMT_ok{l:List OW}{e:E}{tm:TM}{C:TM→Res}{R:Res}(h:(mkMT l).f e tm C=R)(hR:R≠.fail):∃t,C t=R∧TL t (gL l e tm) l.length:=by
 have hi8:∀(t:TM) (i:Nat),t.y=eTr .un 3→tget (i+8) t=.un:=fun t i ht=>by
  show(gw AV 3 i).f t.y=_;rw[ht];exact get_e (AV.un) 3 i
 match l,h with
 |[],h=>exact⟨_,h,fun i _=>by rw[tget_e];rfl⟩
 |[x0],h=>
  refine⟨_,h,fun i _=>?_⟩;match i with
  |0|1|2|3|4|5|6|7=>rfl
  |i+8=>rw[hi8 _ i rfl,if_neg (by simp)]
 |[x0,x1],h=>
  refine⟨_,h,fun i _=>?_⟩;match i with
  |0|1|2|3|4|5|6|7=>rfl
  |i+8=>rw[hi8 _ i rfl,if_neg (by simp)]
 |[x0,x1,x2],h=>
  refine⟨_,h,fun i _=>?_⟩;match i with
  |0|1|2|3|4|5|6|7=>rfl
  |i+8=>rw[hi8 _ i rfl,if_neg (by simp)]
 |[x0,x1,x2,x3],h=>
  refine⟨_,h,fun i _=>?_⟩;match i with
  |0|1|2|3|4|5|6|7=>rfl
  |i+8=>rw[hi8 _ i rfl,if_neg (by simp)]
 |[x0,x1,x2,x3,x4],h=>
  refine⟨_,h,fun i _=>?_⟩;match i with
  |0|1|2|3|4|5|6|7=>rfl
  |i+8=>rw[hi8 _ i rfl,if_neg (by simp)]
 |[x0,x1,x2,x3,x4,x5],h=>
  refine⟨_,h,fun i _=>?_⟩;match i with
  |0|1|2|3|4|5|6|7=>rfl
  |i+8=>rw[hi8 _ i rfl,if_neg (by simp)]
 |x0::x1::x2::x3::x4::x5::x6::l,h=>
  obtain⟨t,n,h1,h2,h3⟩:=tmL_ok h hR;rw[len_gL]at h2;cases h2;exact⟨t,h1,h3⟩
def RetP(ι:Io)(H:HS)(w:World)(v:AV)(H':HS):Ending→World→Prop:=fun e w'=>∃u ι',e=.returned u∧RV ι' v u∧HR ι' H' w'∧Go1 ι (hp H.h) w ι' (hp H'.h) H'.nx w'
def CallOk(P:Program)(ih:Ih):Prop:=∀f n t H v H',ih.c f n t H=.fv v H'→∀ι w args,HR ι H w→TA ι t args→args.size=n→
 ((callFunc f args).run P w=.ok (.enter f args) w∧CallsIn Fence.wide 0 P f args w (RetP ι H w v H'))∨(∃u,(callFunc f args).run P w=.ok (.value u) w∧RV ι v u∧H'=H∧∃l b,tget 0 t=.s l b)
def RndOk(P:Program)(ih:Ih):Prop:=∀b a H v H',ih.y b a H=.fv v H'→∀ι w E (args:Array Value),HR ι H w→ι b=some E→RL ι a args.toList→
 ∃f tmps ac bd,(Instr.yield E.b args).run P w=.ok (.round E.b f tmps ac bd) w∧RoundIn Fence.wide 0 P E.b f tmps ac bd w (RetP ι H w v H')
def WF(F:Fence):Prop:=F=Fence.wide∨∃l,F=Fence.wide.inRound l
theorem WF.fn{F:Fence}(h:WF F)(f:FuncId):F.fn f:=by rcases h with rfl|⟨l,rfl⟩<;>trivial
theorem WF.dep{F:Fence}(h:WF F):F.depth=none:=by rcases h with rfl|⟨l,rfl⟩<;>rfl
theorem WF.calls{F:Fence}(h:WF F){f:FuncId}{args:Array Value}{w:World}{R:Ending→World→Prop}(hc:CallsIn Fence.wide 0 P f args w R):CallsIn F 0 P f args w R:=by
 rcases h with rfl|⟨l,rfl⟩<;>exact hc
theorem WF.rounds{F:Fence}(h:WF F){l:Nat}{f:FuncId}{tmps:Array Value}{ac bd:Code}{w:World}{R:Ending→World→Prop}(hc:RoundIn Fence.wide 0 P l f tmps ac bd w R):RoundIn F 0 P l f tmps ac bd w R:=by
 rcases h with rfl|⟨l',rfl⟩<;>exact hc
theorem OpIn.enter{F:Fence}(hF:WF F){H H':HS}{w:World}{a:Act}{o:Oper}{u:AV}{f:FuncId}{args:Array Value}(hdf:∀c,o.op≠.defer c)(hrun:(execOp a.eval o).run P w=.ok (.enter f args) w)(hc:CallsIn Fence.wide 0 P f args w (RetP ι H w u H')):OpIn F 0 P ι H w a o u H':=by
 intro next Q hn;refine⟨fun f _=>hF.fn f,?_⟩;rw[Oper.semAt_eq _ _ _ hdf,hrun,Oper.uponIn_enter];refine⟨(fun h=>by rw[hF.dep]at h;simp at h),(hF.calls hc).mono fun e w' he=>?_⟩;obtain⟨v,ι',rfl,h1,h2,h3⟩:=he;exact hn v w' ι' h1 h2 h3
theorem OpIn.round{F:Fence}(hF:WF F){H H':HS}{w:World}{a:Act}{o:Oper}{u:AV}{l:Nat}{f:FuncId}{tmps:Array Value}{ac bd:Code}(hdf:∀c,o.op≠.defer c)(hrun:(execOp a.eval o).run P w=.ok (.round l f tmps ac bd) w)(hc:RoundIn Fence.wide 0 P l f tmps ac bd w (RetP ι H w u H')):OpIn F 0 P ι H w a o u H':=by
 intro next Q hn;refine⟨fun f _=>hF.fn f,?_⟩;rw[Oper.semAt_eq _ _ _ hdf,hrun,Oper.uponIn_round];refine⟨(fun h=>by rw[hF.dep]at h;simp at h),(hF.rounds hc).mono fun e w' he=>?_⟩;obtain⟨v,ι',rfl,h1,h2,h3⟩:=he;exact hn v w' ι' h1 h2 h3
theorem OpIn.value{F:Fence}(hF:WF F){H:HS}{w:World}{a:Act}{o:Oper}{u:AV}{v:Value}(hdf:∀c,o.op≠.defer c)(hrun:(execOp a.eval o).run P w=.ok (.value v) w)(hr:HR ι H w)(hv:RV ι u v):OpIn F 0 P ι H w a o u H:=
 St.opIn hF.fn hdf ⟨_,w,ι,v,hrun,.inl rfl,hv,hr,Go1.refl hr.rel⟩
def OpC(F:Fence)(P:Program)(o:Oper)(s:Sx)(f:WR→WR):Prop:=
 ∀(K:WR) (X:Cx) (e:E) (tm:TM) (H:HS) (θ:Te) (R:Res),CallOk P X.ih→RndOk P X.ih→OV s θ e tm→R≠.fail→(f K).f X e tm H=R→∃u H',K.f X (.c u e) tm H'=R∧AStep F 0 P θ H o u H'
theorem rFV_ok{C:AV→HS→Res}{r R:Res}(h:rFV C r=R)(hR:R≠.fail):∃v H,r=.fv v H∧C v H=R:=by
 cases r with
 |fv v H=>exact⟨v,H,rfl,h⟩
 |_=>exact absurd h.symm hR
theorem args_rl{s:Sx}{θ:Te}{e:E}{tm:TM}(hO:OV s θ e tm){o:Oper}{a:Act}(hx:Ops ι θ o a){l:List Operand}(hl:∀x∈l,x∈o.op.operands.toList):RL ι (gL (l.map (opd s)) e tm) (l.map a.eval):=by
 rw[gL_eq,List.map_map];exact RL_mem (ρ:=(fun x=>x.f e tm)∘opd s) fun x hm=>hO.rv (hx x (hl x hm))
theorem ok_cal{F:Fence}(hF:WF F){o:Oper}{s:Sx}{c:Call}(ho:o.op=.call c){f:FuncId}(hc:c.callee=.value (.func f)):OpC F P o s fun k=>⟨calF f c.args.toList.length (mkMT (c.args.toList.map (opd s))) k⟩:=by
 intro K X e tm H θ R hC hY hO hR h;obtain⟨t,h1,h2⟩:=mkMT_ok h hR;obtain⟨v,H',h3,h4⟩:=rFV_ok h1 hR;refine⟨v,H',h4,fun ι a w hr hx=>?_⟩;have hmem:∀x∈c.args.toList,x∈o.op.operands.toList:=fun x hm=>by rw[ho];simp only[Op.operands,Call.operands,hc];simp;exact .inr (by simpa using hm)
 have hrl:=args_rl hO hx hmem;have hta:=h2.ta (by rw[len_gL]) hrl;have hdf:∀d,o.op≠.defer d:=fun d hd=>by rw[ho]at hd;cases hd
 have hrun:(execOp a.eval o).run P w=(callFunc f (c.args.toList.map a.eval).toArray).run P w:=by
  have e1:((#[]:Array Value)++Array.map a.eval c.args++#[])=(c.args.toList.map a.eval).toArray:=by apply Array.toList_inj.1;simp
  simp only[execOp,ho,resolve,hc,Act.eval,Deferred.ofValue,Sem.run_bind,Sem.run_pure,Result.andThen,invoke];rw[←e1]
 rcases hC f _ t H v H' h3 ι w _ hr hta (by simp) with⟨g1,g2⟩|⟨u,g1,g2,rfl,-⟩
 ·exact OpIn.enter hF hdf (hrun.trans g1) g2
 ·exact OpIn.value hF hdf (hrun.trans g1) hr g2
theorem lenA_sz{l:AV}{n:Nat}{vs:List Value}(hl:lenL' l=some n)(hr:RL ι l vs):vs.toArray.size=lenA l:=by
 rw[lenA_of hl];have:=(RL.len hl hr).1;simpa using this
theorem cat_lens:∀{k l m:AV} {n:Nat},cat k l=some m→lenL' m=some n→∃a b,lenL' k=some a∧lenL' l=some b∧n=a+b:=by
 intro k;induction k with
 |nil=>intro l m n h hn;simp only[cat,Option.some.injEq]at h;subst h;exact⟨0,n,rfl,hn,by omega⟩
 |cons x k _ ih=>
  intro l m n h hn;simp only[cat]at h;cases hq:cat k l with
  |none=>rw[hq]at h;cases h
  |some m'=>
   rw[hq]at h;simp only[Option.map_some,Option.some.injEq]at h;subst h;simp only[lenL']at hn;cases hm:lenL' m' with
   |none=>rw[hm]at hn;cases hn
   |some n'=>
    rw[hm]at hn;simp only[Option.map_some,Option.some.injEq]at hn;subst hn;obtain⟨a,b,h1,h2,h3⟩:=ih hq hm;exact⟨a+1,b,by simp[lenL',h1],h2,by omega⟩
 |_=>intro l m n h;simp[cat]at h
theorem RV.yl{b:Nat}{v:Value}(h:RV ι (.r 1 b) v):∃E,ι b=some E∧v=.func (.yield E.b) #[] #[]:=by simpa[RV,RL,opv]using h
theorem ok_calV{F:Fence}(hF:WF F){o:Oper}{s:Sx}{c:Call}(ho:o.op=.call c){g:Operand}(hc:c.callee=.value g):OpC F P o s fun k=>⟨calV (opd s g) (c.args.toList.map (opd s)) k⟩:=by
 intro K X e tm H θ R hC hY hO hR h;change cvK X.ih H (fun v H=>K.f X (.c v e) tm H) (gL (c.args.toList.map (opd s)) e tm) ((opd s g).f e tm)=R at h;have hmem:∀x∈c.args.toList,x∈o.op.operands.toList:=fun x hm=>by rw[ho];simp only[Op.operands,Call.operands,hc];simp;exact .inr (by simpa using hm)
 have hmg:g∈o.op.operands.toList:=by rw[ho];simp[Op.operands,Call.operands,hc]
 have hdf:∀d,o.op≠.defer d:=fun d hd=>by rw[ho]at hd;cases hd
 cases hp:(opd s g).f e tm with
 |r z b=>
  rw[hp]at h;obtain⟨c1,h1⟩:=tst hR h;have hz:z=1:=Nat.eq_of_beq_eq_true c1;subst hz;obtain⟨v,H',h3,h4⟩:=rFV_ok h1 hR;refine⟨v,H',h4,fun ι a w hr hx=>?_⟩;have f1:=hO.rv (hx g hmg);rw[hp]at f1;obtain⟨E,hE,hv⟩:=f1.yl;have hrl:=args_rl hO hx hmem;obtain⟨f,tmps,ac,bd,g1,g2⟩:=hY b _ H v H' h3 ι w E (c.args.toList.map a.eval).toArray hr hE (by simpa using hrl);refine OpIn.round hF hdf ?_ g2;have e1:((#[]:Array Value)++Array.map a.eval c.args)=(c.args.toList.map a.eval).toArray:=by apply Array.toList_inj.1;simp
  simp only[execOp,ho,resolve,hc,hv,Deferred.ofValue,Sem.run_bind,Sem.run_pure,Result.andThen,invoke];rw[e1];exact g1
 |k z f cap=>
  rw[hp]at h;obtain⟨c1,h1⟩:=tst hR h;have hz:z=2:=Nat.eq_of_beq_eq_true c1;subst hz;obtain⟨l2,hcat,h2⟩:=catA_ok h1 hR;obtain⟨t,n,h5,h6,h7⟩:=tmL_ok h2 hR;obtain⟨v,H',h3,h4⟩:=rFV_ok h5 hR;refine⟨v,H',h4,fun ι a w hr hx=>?_⟩;have f1:=hO.rv (hx g hmg);rw[hp]at f1;obtain⟨ws,f2,hv⟩:=f1.fn;have hrl:=args_rl hO hx hmem;have hrl2:=RL.cat hcat hrl f2;have hta:=h7.ta h6 hrl2;have hsz2:=lenA_sz h6 hrl2;have hrun:(execOp a.eval o).run P w=(callFunc f (c.args.toList.map a.eval++ws).toArray).run P w:=by
   have e1:((#[]:Array Value)++Array.map a.eval c.args++ws.toArray)=(c.args.toList.map a.eval++ws).toArray:=by apply Array.toList_inj.1;simp
   simp only[execOp,ho,resolve,hc,hv,Deferred.ofValue,Sem.run_bind,Sem.run_pure,Result.andThen,invoke];rw[e1]
  rcases hC f _ t H v H' h3 ι w _ hr hta hsz2 with⟨g1,g2⟩|⟨u,g1,g2,rfl,-⟩
  ·exact OpIn.enter hF hdf (hrun.trans g1) g2
  ·exact OpIn.value hF hdf (hrun.trans g1) hr g2
 |_=>rw[hp]at h;exact absurd h.symm hR
theorem mthd_ok{ti:TT}(T:TyOk P ti){m:String}{t:TypeId}{f:FuncId}(h:mthd ti m t=some f)(v:Value)(w:World)(fuel:Nat):(method (fuel+1) t v m).run P w=.ok (f,v) w:=by
 unfold mthd at h;cases hg:gT t with
 |false=>rw[hg]at h;cases h
 |true=>
  rw[hg]at h;simp only[Bool.not_true,cond_false]at h;cases hm:(tI ti t).methods.toList.find? (·.name==m) with
  |none=>rw[hm]at h;cases h
  |some mt=>
   rw[hm]at h;simp only at h;cases hf:mt.func with
   |none=>rw[hf]at h;cases h
   |some q=>
    obtain⟨f',pr⟩:=q;rw[hf]at h;simp only at h;cases hc:and (and (Nat.beq mt.path.size 0) (not pr)) (notPt ti t) with
    |false=>rw[hc]at h;cases h
    |true=>
     rw[hc]at h;simp only[cond_true,Option.some.injEq]at h;subst h;obtain⟨c1,c2⟩:=and_ok hc;obtain⟨c3,c4⟩:=and_ok c1;have hp0:mt.path=#[]:=Array.eq_empty_of_size_eq_zero (Nat.eq_of_beq_eq_true c3);have hpr:pr=false:=by simpa using c4
     subst hpr;have hfind:(tI ti t).methods.find? (·.name==m)=some mt:=by rw[←Array.find?_toList];exact hm
     unfold method;rw[Sem.run_bind,run_info (T.info t hg)];simp only[Result.andThen,hfind];rw[Sem.run_bind,hp0];simp only[follow,Sem.run_pure,Result.andThen,hf];rw[Sem.run_bind];unfold receiverAt;rw[Sem.run_bind,run_und (T.und t hg)];simp only[Result.andThen];unfold notPt at c2;cases hu:und ti t with
     |pointer el=>rw[hu]at c2;cases c2
     |_=>rfl
theorem ok_inv{F:Fence}(hF:WF F){o:Oper}{s:Sx}(T:TyOk P s.ti){c:Call}(ho:o.op=.call c){r:Operand}{m:String}(hc:c.callee=.invoke r m):OpC F P o s fun k=>⟨invF s.ti m (opd s r) (c.args.toList.map (opd s)) k⟩:=by
 intro K X e tm H θ R hC hY hO hR h;change inK s.ti m X.ih H (fun v H=>K.f X (.c v e) tm H) (gL (c.args.toList.map (opd s)) e tm) ((opd s r).f e tm)=R at h;have hmem:∀x∈c.args.toList,x∈o.op.operands.toList:=fun x hm=>by rw[ho];simp only[Op.operands,Call.operands,hc];simp;exact .inr (by simpa using hm)
 have hmg:r∈o.op.operands.toList:=by rw[ho];simp[Op.operands,Call.operands,hc]
 have hdf:∀d,o.op≠.defer d:=fun d hd=>by rw[ho]at hd;cases hd
 cases hp:(opd s r).f e tm with
 |k z t l=>
  rw[hp]at h;obtain⟨c1,h1⟩:=tst hR h;have hz:z=3:=Nat.eq_of_beq_eq_true c1;subst hz;cases hm:mthd s.ti m t with
  |none=>rw[hm]at h1;exact absurd h1.symm hR
  |some f=>
   rw[hm]at h1;obtain⟨tt,n,h5,h6,h7⟩:=tmL_ok (C:=fun t=>rFV (fun v H=>K.f X (.c v e) tm H) (X.ih.c f (lenA _) t H)) h1 hR;obtain⟨v,H',h3,h4⟩:=rFV_ok h5 hR;refine⟨v,H',h4,fun ι a w hr hx=>?_⟩;have f1:=hO.rv (hx r hmg);rw[hp]at f1;obtain⟨u,f2,hv⟩:=f1.ifc;have hrl:=args_rl hO hx hmem;have hrl2:RL ι (.cons l (gL (c.args.toList.map (opd s)) e tm)) (u::c.args.toList.map a.eval):=⟨_,_,rfl,f2,hrl⟩;have hta:=h7.ta h6 hrl2;have hrun:(execOp a.eval o).run P w=(callFunc f (u::c.args.toList.map a.eval).toArray).run P w:=by
    have e1:(#[Value.iface t u]++Array.map a.eval c.args)[0]?=some (.iface t u):=by rw[←Array.getElem?_toList,Array.toList_append];rfl
    have e2:(#[Value.iface t u]++Array.map a.eval c.args).extract 1 (#[Value.iface t u]++Array.map a.eval c.args).size=Array.map a.eval c.args:=by apply Array.toList_inj.1;simp;exact List.take_of_length_le (by rw[List.length_map,Array.length_toList];exact Nat.le_refl _)
    have e3:#[u]++Array.map a.eval c.args=(u::c.args.toList.map a.eval).toArray:=by apply Array.toList_inj.1;simp
    simp only[execOp,ho,resolve,hc,hv,Sem.run_bind,Sem.run_pure,Result.andThen,invoke,e1,e2,callMethod];rw[show(program:Sem Program).run P w=.ok P w from rfl];simp only;obtain⟨k,hk⟩:∃k,P.types.size+Made.depth=k+1:=⟨P.types.size+(Made.depth-1),by simp[Made.depth]⟩;rw[hk,mthd_ok T hm u w];simp only;rw[e3]
   rcases hC f _ tt H v H' h3 ι w _ hr hta (lenA_sz h6 (by assumption)) with⟨g1,g2⟩|⟨u',g1,g2,rfl,-⟩
   ·exact OpIn.enter hF hdf (hrun.trans g1) g2
   ·exact OpIn.value hF hdf (hrun.trans g1) hr g2
 |_=>rw[hp]at h;exact absurd h.symm hR
end Go.Proofs.YtglihimiidiacaaGreatDoor.Ev8
namespace Go.Proofs.YtglihimiidiacaaGreatDoor.Ev8
open Go
variable {P:Program} {ι ι':Io}
def KStep(F:Fence)(P:Program)(θ:Te)(H:HS)(o:Oper)(u:AV)(H':HS):Prop:=match kOp cvT o.op with
 |0=>H'=H∧RStep P θ o u
 |1=>H'=H∧LStep P θ H o u
 |2=>NStep P θ H o u H'
 |_=>AStep F 0 P θ H o u H'
theorem kOp_df{o:Oper}(h:kOp cvT o.op≠3)(c:Call):o.op≠.defer c:=fun hc=>by rw[hc]at h;exact h rfl
theorem KStep.a{F:Fence}(hF:WF F){θ:Te}{H H':HS}{o:Oper}{u:AV}(h:KStep F P θ H o u H'):AStep F 0 P θ H o u H':=by
 unfold KStep at h;split at h
 ·rename_i hk;obtain⟨rfl,h⟩:=h;exact(h.b _).a hF.fn (kOp_df (by rw[hk];simp))
 ·rename_i hk;obtain⟨rfl,h⟩:=h;exact h.b.a hF.fn (kOp_df (by rw[hk];simp))
 ·rename_i hk;exact h.b.a hF.fn (kOp_df (by rw[hk];simp))
 ·exact h
def OpK(F:Fence)(P:Program)(o:Oper)(s:Sx)(W:WR→WR):Prop:=
 ∀(K:WR) (X:Cx) (e:E) (tm:TM) (H:HS) (θ:Te) (R:Res),CallOk P X.ih→RndOk P X.ih→OV s θ e tm→R≠.fail→(W K).f X e tm H=R→∃u H',K.f X (.c u e) tm H'=R∧KStep F P θ H o u H'
theorem OpR.k{F:Fence}{o:Oper}{s:Sx}{W:WR→WR}(h:OpR P o s W)(hk:kOp cvT o.op=0):OpK F P o s W:=fun K X e tm H θ R _ _ hO hR hh=>by
 obtain⟨u,h1,h2⟩:=h K X e tm H θ R hO hR hh;exact⟨u,H,h1,by unfold KStep;rw[hk];exact⟨rfl,h2⟩⟩
theorem OpL.k{F:Fence}{o:Oper}{s:Sx}{W:WR→WR}(h:OpL P o s W)(hk:kOp cvT o.op=1):OpK F P o s W:=fun K X e tm H θ R _ _ hO hR hh=>by
 obtain⟨u,h1,h2⟩:=h K X e tm H θ R hO hR hh;exact⟨u,H,h1,by unfold KStep;rw[hk];exact⟨rfl,h2⟩⟩
theorem OpN.k{F:Fence}{o:Oper}{s:Sx}{W:WR→WR}(h:OpN P o s W)(hk:kOp cvT o.op=2):OpK F P o s W:=fun K X e tm H θ R _ _ hO hR hh=>by
 obtain⟨u,H',h1,h2⟩:=h K X e tm H θ R hO hR hh;exact⟨u,H',h1,by unfold KStep;rw[hk];exact h2⟩
theorem OpB.k{F:Fence}(hF:WF F){o:Oper}{s:Sx}{W:WR→WR}(h:OpB P o s W)(hk:kOp cvT o.op=3)(hdf:∀c,o.op≠.defer c):OpK F P o s W:=fun K X e tm H θ R _ _ hO hR hh=>by
 obtain⟨u,H',h1,h2⟩:=h K X e tm H θ R hO hR hh;exact⟨u,H',h1,by unfold KStep;rw[hk];exact h2.a hF.fn hdf⟩
theorem OpC.k{F:Fence}{o:Oper}{s:Sx}{W:WR→WR}(h:OpC F P o s W)(hk:kOp cvT o.op=3):OpK F P o s W:=fun K X e tm H θ R hC hY hO hR hh=>by
 obtain⟨u,H',h1,h2⟩:=h K X e tm H θ R hC hY hO hR hh;exact⟨u,H',h1,by unfold KStep;rw[hk];exact h2⟩
theorem OpK.no{F:Fence}{o:Oper}{s:Sx}:OpK F P o s fun _=>noW:=fun _K _X _e _tm _H _θ _R _ _ _ hR hh=>absurd hh.symm hR
theorem OpK.if{F:Fence}{o:Oper}{s:Sx}{c:Bool}{W V:WR→WR}(h1:c=true→OpK F P o s W)(h2:c=false→OpK F P o s V):OpK F P o s fun k=>bif c then W k else V k:=by
 cases c with
 |true=>exact h1 rfl
 |false=>exact h2 rfl
theorem OpK.ow{α:Type}{F:Fence}{o:Oper}{s:Sx}{x:Option α}{W:α→WR→WR}(h:∀a,x=some a→OpK F P o s (W a)):OpK F P o s fun k=>oW x fun a=>W a k:=by
 cases x with
 |none=>exact OpK.no
 |some a=>exact h a rfl
theorem zero1_ok{ti:TT}{t:TypeId}{l:AV}(h:zero1 ti t=some l):∃z,(tI ti t).zero=some z∧l=ofV z:=by
 unfold zero1 at h;cases hz:(tI ti t).zero with
 |none=>rw[hz]at h;cases h
 |some z=>rw[hz]at h;simp only[Option.some.injEq]at h;exact⟨z,rfl,h.symm⟩
theorem isStrT_ok{ti:TT}{t:TypeId}(h:isStrT ti t=true):und ti t=.string:=by
 unfold isStrT at h;cases hu:und ti t with
 |string=>rfl
 |_=>rw[hu]at h;cases h
theorem intT_ok{ti:TT}{t:TypeId}{k:IntKind}(h:intT ti t=some k):und ti t=.int k:=by
 unfold intT at h;cases hu:und ti t with
 |int k'=>rw[hu]at h;simp only[Option.some.injEq]at h;rw[h]
 |_=>rw[hu]at h;cases h
theorem elT_ok{ti:TT}{t el:TypeId}(h:elT ti t=some el):und ti t=.slice el:=by
 unfold elT at h;cases hu:und ti t with
 |slice e=>rw[hu]at h;simp only[Option.some.injEq]at h;rw[h]
 |_=>rw[hu]at h;cases h
theorem byT_ok{ti:TT}{t:TypeId}(h:byT ti t=true):∃e,und ti t=.slice e∧und ti e=.int .u8:=by
 unfold byT at h;cases hu:und ti t with
 |slice e=>
  rw[hu]at h;refine⟨e,rfl,?_⟩;simp only[isU8]at h;split at h
  ·rename_i h1;exact h1
  ·cases h
 |_=>rw[hu]at h;cases h
theorem isIf_ok{ti:TT}{t:TypeId}(h:isIf ti t=false)(m:Array (String×TypeId)):und ti t≠.interface m:=fun hu=>by
 unfold isIf at h;rw[hu]at h;cases h
theorem isSlT_ok{ti:TT}{t:TypeId}(h:isSlT ti t=true):∃e,und ti t=.slice e:=by
 unfold isSlT at h;cases hu:und ti t with
 |slice e=>exact⟨e,rfl⟩
 |_=>rw[hu]at h;cases h
end Go.Proofs.YtglihimiidiacaaGreatDoor.Ev8
namespace Go.Proofs.YtglihimiidiacaaGreatDoor.Ev8
open Go
variable {P:Program} {ι ι':Io}
theorem fld_field{ti:TT}{t:TypeId}{f:Nat}{q:Nat×TypeId}(T:TyOk P ti)(hg:gT t=true)(h:fsOf ti t f=some q):∃fs fl,P.underlying t=some (.struct fs)∧fs[f]?=some fl∧q=(fl.offset,fl.type)∧gT fl.type=true:=by
 obtain⟨fs,fl,h1,h2,h3⟩:=fsOf_ok h;exact⟨fs,fl,by rw[T.und t hg,h1],h2,h3,T.st t fs hg h1 fl (fs_mem h2)⟩
theorem blt_ok{F:Fence}(hF:WF F){o:Oper}{s:Sx}(T:TyOk P s.ti){c:Call}(ho:o.op=.call c){b:Builtin}(hc:c.callee=.builtin b)(hg:∀u∈c.argTypes.toList,gT u=true):OpK F P o s fun k=>bltC b c.args.toList c.argTypes.toList s k:=by
 have hdf:∀d,o.op≠.defer d:=fun d hd=>by rw[ho]at hd;cases hd
 obtain⟨cl,args,ts⟩:=c;simp only at hc hg;subst hc;have hts0:∀t l,ts.toList=t::l→ts[0]?=some t:=fun t l h=>by rw[←Array.getElem?_toList,h];rfl
 have hargs:∀l:List Operand,args.toList=l→args=l.toArray:=fun l h=>by rw[←h]
 unfold bltC;simp only;split
 ·rename_i x hb ha
  split
  ·rename_i t l ht
   have hgt:gT t=true:=hg t (by rw[ht];exact List.mem_cons_self ..);refine OpK.if (fun h1=>?_) fun _=>OpK.if (fun h1=>?_) fun _=>OpK.no
   ·obtain⟨el,h2⟩:=isSlT_ok h1;exact(ok_lnL ho (hargs _ ha) (hts0 t l ht) (by rw[T.und t hgt,h2])).k (by rw[ho];rfl)
   ·exact(ok_lnS ho (hargs _ ha) (hts0 t l ht) (by rw[T.und t hgt,isStrT_ok h1])).k (by rw[ho];rfl)
  ·exact OpK.no
 ·rename_i x y hb ha
  exact(ok_mm (lt:=false) ho (hargs _ ha)).k (by rw[ho];rfl)
 ·rename_i x y hb ha
  exact(ok_mm (lt:=true) ho (hargs _ ha)).k (by rw[ho];rfl)
 ·rename_i x y hb ha
  split
  ·rename_i t l ht
   refine OpK.if (fun h1=>OpK.ow fun el he=>?_) fun _=>OpK.no;exact(ok_app T ho (hargs _ ha) ht hg h1 he).k hF (by rw[ho];rfl) hdf
  ·exact OpK.no
 ·rename_i x y hb ha
  split
  ·rename_i t l ht
   refine OpK.ow fun el he=>?_;exact(ok_cpy T ho (hargs _ ha) ht hg he).k hF (by rw[ho];rfl) hdf
  ·exact OpK.no
 ·rename_i x y hb ha
  split
  ·rename_i t l ht
   refine OpK.ow fun el he=>OpK.if (fun h1=>?_) fun _=>OpK.no;exact(ok_us T ho (hargs _ ha) ht hg he (Nat.eq_of_beq_eq_true h1)).k hF (by rw[ho];rfl) hdf
  ·exact OpK.no
 ·exact OpK.no
theorem mkC_ok{F:Fence}(hF:WF F){o:Oper}{s:Sx}(T:TyOk P s.ti)(hok:opOk o=true):OpK F P o s fun k=>(mkC P o.op).f s k:=by
 have hg:∀t∈tyO o.op,gT t=true:=List.all_eq_true.1 (and_ok hok).2;cases ho:o.op with
 |move x=>exact(ok_mov (.inl ho)).k (by rw[ho];rfl)
 |assign x=>exact(ok_mov (.inr ho)).k (by rw[ho];rfl)
 |pick c x y=>exact(ok_pick ho).k (by rw[ho];rfl)
 |alloc t=>
  have h1:=hg t (by rw[ho];simp[tyO]);refine OpK.ow (W:=fun z k=>⟨allF t z k⟩) fun l hl=>?_;obtain⟨z,hz1,hz2,hz3⟩:=T.zero t h1;exact(ok_all ho (T.zeroValue h1 hz1) fun ι=>(zeroA_ok hl hz1 hz3).2).k (by rw[ho];rfl)
 |box t x=>exact(ok_box ho).k (by rw[ho];rfl)
 |build t ps=>
  have h1:=hg t (by rw[ho];simp[tyO]);refine OpK.if (W:=fun k=>oW (zeroA s.ti t) fun z=>oW (prts s t ps.toList) fun ps=>⟨bldF z ps k⟩) (V:=fun _=>noW) (fun hag=>OpK.ow (W:=fun z k=>oW (prts s t ps.toList) fun ps=>⟨bldF z ps k⟩) fun zl hz=>OpK.ow (W:=fun ps k=>⟨bldF zl ps k⟩) fun qs hq=>?_) fun _=>OpK.no;exact(ok_bld T ho h1 hag hz hq).k (by rw[ho];rfl)
 |buildSlice t len ps=>
  have h1:=hg t (by rw[ho];simp[tyO]);refine OpK.ow (W:=fun el k=>oW (zeroA s.ti el) fun z=>oW (prts s t ps.toList) fun ps=>⟨bslF el (repA z len .nil) (tI s.ti el).size len ps k⟩) fun el he=>OpK.ow (W:=fun z k=>oW (prts s t ps.toList) fun ps=>⟨bslF el (repA z len .nil) (tI s.ti el).size len ps k⟩) fun zl hz=>OpK.ow (W:=fun ps k=>⟨bslF el (repA zl len .nil) (tI s.ti el).size len ps k⟩) fun qs hq=>?_;exact(ok_bsl T ho h1 (elT_ok he) hz hq).k (by rw[ho];rfl)
 |load t x=>
  have h1:=hg t (by rw[ho];simp[tyO]);refine OpK.if (W:=fun k=>⟨ldAF (tI s.ti t).size (opd s x) k⟩) (V:=fun k=>⟨ld1F (opd s x) k⟩) (fun ha=>?_) fun ha=>?_
  ·exact(ok_ldA ho (fun w=>by rw[T.isAgg h1,ha]) (T.sizeOf h1)).k (by rw[ho];rfl)
  ·exact(ok_ld1 ho (fun w=>by rw[T.isAgg h1,ha])).k (by rw[ho];rfl)
 |store t x y=>
  have h1:=hg t (by rw[ho];simp[tyO]);have hdf:∀d,o.op≠.defer d:=fun d hd=>by rw[ho]at hd;cases hd
  refine OpK.if (W:=fun k=>⟨stAF (tI s.ti t).size (opd s x) (opd s y) k⟩) (V:=fun k=>⟨st1F (opd s x) (opd s y) k⟩) (fun ha=>?_) fun ha=>?_
  ·exact(ok_stA ho (T.sizeOf h1)).k hF (by rw[ho];rfl) hdf
  ·exact(ok_st1 ho (fun w=>by rw[T.sizeOf h1,T.one t h1 ha])).k hF (by rw[ho];rfl) hdf
 |nilCheck x=>exact(ok_nil ho).k (by rw[ho];rfl)
 |binOp op t x y u=>
  have h1:=hg t (by rw[ho];simp[tyO]);have hk:kOp cvT o.op=0:=by rw[ho];rfl
  show OpK F P o s fun k=>binC P op t x y s k;unfold binC;cases hi:intT s.ti t with
  |some q=>
   refine OpK.if (W:=fun k=>bif isSh op then ⟨binHF (selI op) (opd s x) (opd s y) k⟩ else ⟨binIF (selI op) (opd s x) (opd s y) k⟩) (V:=fun k=>⟨binXF P (tyK s.ti t) op t x y (opd s x) (opd s y) k⟩) (fun _=>?_) fun _=>(ok_binX T ho h1).k hk;exact OpK.if (W:=fun k=>⟨binHF (selI op) (opd s x) (opd s y) k⟩) (V:=fun k=>⟨binIF (selI op) (opd s x) (opd s y) k⟩) (fun hs=>(ok_binH ho hs).k hk) fun _=>(ok_binI ho).k hk
  |none=>exact OpK.if (W:=fun k=>⟨binSF op (opd s x) (opd s y) k⟩) (V:=fun k=>⟨binXF P (tyK s.ti t) op t x y (opd s x) (opd s y) k⟩) (fun _=>(ok_binS ho).k hk) fun _=>(ok_binX T ho h1).k hk
 |unOp op t x=>
  have hk:kOp cvT o.op=0:=by rw[ho];rfl
  refine OpK.if (W:=fun k=>⟨notF (opd s x) k⟩) (V:=fun k=>⟨unF P op (opd s x) k⟩) (fun hn=>?_) fun _=>(ok_un ho).k hk;have:op=.not:=by cases op<;>first|rfl|(simp[isNot]at hn)
  subst this;exact(ok_not ho).k hk
 |convert a d x=>
  have h1:=hg a (by rw[ho];simp[tyO]);have h2:=hg d (by rw[ho];simp[tyO]);have hdf:∀d,o.op≠.defer d:=fun d hd=>by rw[ho]at hd;cases hd
  have hk3:(∀k,und s.ti d≠.int k)→kOp cvT o.op=3:=fun hn=>by
   have hcv:cvT d=false:=by
    cases hc:cvT d with
    |false=>rfl
    |true=>obtain⟨k,hk⟩:=T.cv d h2 hc;exact absurd hk (hn k)
   rw[ho];show(bif cvT d then 0 else 3)=3;rw[hcv];rfl
  refine OpK.if (W:=fun k=>⟨cvbF (opd s x) k⟩) (V:=fun k=>bif and (isStrT s.ti a) (byT s.ti d) then oW (elT s.ti d) fun el=>⟨s2bF el (opd s x) k⟩ else bif and (isStrT s.ti a) (isStrT s.ti d) then ⟨cvsF (opd s x) k⟩ else oW (intT s.ti d) fun q=>⟨cviF q (opd s x) k⟩) (fun hc=>?_) fun _=>?_
  ·obtain⟨c1,c2⟩:=and_ok hc;obtain⟨el,e1,e2⟩:=byT_ok c1;have e3:=isStrT_ok c2;exact(ok_cvb ho (by rw[T.und a h1,e1]) (by rw[T.und el (T.sl a el h1 e1),e2]) (by rw[T.und d h2,e3])).k hF (hk3 fun k hk=>by rw[e3]at hk;cases hk) hdf
  ·refine OpK.if (W:=fun k=>oW (elT s.ti d) fun el=>⟨s2bF el (opd s x) k⟩) (V:=fun k=>bif and (isStrT s.ti a) (isStrT s.ti d) then ⟨cvsF (opd s x) k⟩ else oW (intT s.ti d) fun q=>⟨cviF q (opd s x) k⟩) (fun hc=>?_) fun _=>?_
   ·obtain⟨c1,c2⟩:=and_ok hc;obtain⟨el,e1,e2⟩:=byT_ok c2;have e3:=isStrT_ok c1;refine OpK.ow (W:=fun el k=>⟨s2bF el (opd s x) k⟩) fun el' he=>?_;have:=elT_ok he;rw[e1]at this;cases this;exact(ok_s2b ho (by rw[T.und a h1,e3]) (by rw[T.und d h2,e1]) (by rw[T.und el (T.sl d el h2 e1),e2])).k hF (hk3 fun k hk=>by rw[e1]at hk;cases hk) hdf
   ·refine OpK.if (W:=fun k=>⟨cvsF (opd s x) k⟩) (V:=fun k=>oW (intT s.ti d) fun q=>⟨cviF q (opd s x) k⟩) (fun hc=>?_) fun _=>?_
    ·obtain⟨c1,c2⟩:=and_ok hc;have e3:=isStrT_ok c1;have e4:=isStrT_ok c2;have hk:=hk3 fun k hk=>by rw[e4]at hk;cases hk
     have h5:=ok_cvs (s:=s) ho (by rw[T.und a h1,e3]) (by rw[T.und d h2,e4]);intro K X e tm H θ R _ _ hO hR hh;obtain⟨u,g1,g2⟩:=h5 K X e tm H θ R hO hR hh;exact⟨u,H,g1,by unfold KStep;rw[hk];exact(g2.b H).a hF.fn hdf⟩
    ·refine OpK.ow (W:=fun q k=>⟨cviF q (opd s x) k⟩) fun q hq=>?_;have e5:=intT_ok hq;have h5:=ok_cvi (s:=s) ho (T.und a h1) (by rw[T.und d h2,e5]);cases hc:cvT d with
     |true=>exact h5.k (by rw[ho];show(bif cvT d then 0 else 3)=0;rw[hc];rfl)
     |false=>
      intro K X e tm H θ R _ _ hO hR hh;obtain⟨u,g1,g2⟩:=h5 K X e tm H θ R hO hR hh;refine⟨u,H,g1,?_⟩;unfold KStep;rw[show kOp cvT o.op=3 from by rw[ho];show(bif cvT d then 0 else 3)=3;rw[hc];rfl];exact(g2.b H).a hF.fn hdf
 |makeInterface t x=>
  have h1:=hg t (by rw[ho];simp[tyO]);exact OpK.if (W:=fun _=>noW) (V:=fun k=>⟨ifcF t (opd s x) k⟩) (fun _=>OpK.no) fun hc=>(ok_ifc ho (T.und t h1) (isIf_ok hc)).k (by rw[ho];rfl)
 |makeFunc f fst cap=>
  show OpK F P o s fun k=>mkfC f fst cap s k;unfold mkfC;cases f with
  |func f=>
   refine OpK.if (W:=fun _=>noW) (V:=fun k=>⟨mkfF f (cap.toList.map (opd s)) k⟩) (fun _=>OpK.no) fun hc=>?_;have hf:fst.size=0:=by
    have:Nat.beq fst.size 0=true:=by simpa using hc
    exact Nat.eq_of_beq_eq_true this
   exact(ok_mkf ho hf).k (by rw[ho];rfl)
  |_=>exact OpK.if (W:=fun _=>noW) (V:=fun _=>noW) (fun _=>OpK.no) fun _=>OpK.no
 |makeMap t r=>
  have hdf:∀d,o.op≠.defer d:=fun d hd=>by rw[ho]at hd;cases hd
  refine OpK.if (W:=fun k=>⟨mkmF k⟩) (V:=fun _=>noW) (fun hc=>?_) fun _=>OpK.no;cases r with
  |none=>exact(ok_mkm ho).k hF (by rw[ho];rfl) hdf
  |some z=>cases hc
 |makeSlice t l c=>
  have h1:=hg t (by rw[ho];simp[tyO]);have hdf:∀d,o.op≠.defer d:=fun d hd=>by rw[ho]at hd;cases hd
  refine OpK.ow (W:=fun el k=>oW (zeroA s.ti el) fun z=>⟨mksF el z (tI s.ti el).size (opd s l) (opd s c) k⟩) fun el he=>OpK.ow (W:=fun z k=>⟨mksF el z (tI s.ti el).size (opd s l) (opd s c) k⟩) fun zl hz=>?_;exact(ok_mks T ho h1 (elT_ok he) hz).k hF (by rw[ho];rfl) hdf
 |slice t x lo hi mx=>
  have h1:=hg t (by rw[ho];simp[tyO]);have hk:kOp cvT o.op=0:=by rw[ho];rfl
  show OpK F P o s fun k=>slcC t x lo hi mx s k;unfold slcC;cases hu:und s.ti t with
  |string=>
   refine OpK.if (W:=fun k=>⟨strF (opd s x) (lo.map (opd s)) (hi.map (opd s)) k⟩) (V:=fun _=>noW) (fun hc=>?_) fun _=>OpK.no;cases mx with
   |none=>exact(ok_str ho (by rw[T.und t h1,hu])).k hk
   |some z=>cases hc
  |slice el=>
   refine OpK.if (W:=fun k=>⟨slsF (tI s.ti el).size (opd s x) (lo.map (opd s)) (hi.map (opd s)) (mx.map (opd s)) k⟩) (V:=fun _=>noW) (fun hc=>?_) fun _=>OpK.no;refine(ok_sls ho (by rw[T.und t h1,hu]) (T.sizeOf (T.sl t el h1 hu)) fun hm=>?_).k hk;cases mx with
   |none=>cases hm
   |some z=>cases hi with
    |none=>cases hc
    |some y=>rfl
  |array n el=>
   refine OpK.if (W:=fun k=>⟨slaF n (tI s.ti el).size (opd s x) (lo.map (opd s)) (hi.map (opd s)) k⟩) (V:=fun _=>noW) (fun hc=>?_) fun _=>OpK.no;cases mx with
   |none=>exact(ok_sla ho (by rw[T.und t h1,hu]) (T.sizeOf (T.ar t n el h1 hu))).k hk
   |some z=>cases hc
  |_=>exact OpK.no
 |fieldAddr t x f=>
  have h1:=hg t (by rw[ho];simp[tyO]);refine OpK.ow (W:=fun(q:Nat×TypeId) k=>⟨fldF q.1 (opd s x) k⟩) fun q hq=>?_;obtain⟨fs,fl,e1,e2,rfl,e4⟩:=fld_field T h1 hq;exact(ok_fld ho e1 e2 rfl (T.sizeOf e4) (Nat.ne_of_gt (T.pos _ e4))).k (by rw[ho];rfl)
 |field t x f=>
  have h1:=hg t (by rw[ho];simp[tyO]);refine OpK.ow (W:=fun(q:Nat×TypeId) k=>⟨fieF (aggT s.ti q.2) q.1 (tI s.ti q.2).size (opd s x) k⟩) fun q hq=>?_;obtain⟨fs,fl,e1,e2,rfl,e4⟩:=fld_field T h1 hq;exact(ok_fie ho e1 e2 (T.isAgg e4) (T.sizeOf e4)).k (by rw[ho];rfl)
 |indexAddr t x i=>
  have h1:=hg t (by rw[ho];simp[tyO]);have hk:kOp cvT o.op=0:=by rw[ho];rfl
  show OpK F P o s fun k=>ixaC t x i s k;unfold ixaC;cases hu:und s.ti t with
  |array n el=>exact(ok_ixa ho (by rw[T.und t h1,hu]) (T.sizeOf (T.ar t n el h1 hu))).k hk
  |slice el=>exact(ok_ixs ho (by rw[T.und t h1,hu]) (T.sizeOf (T.sl t el h1 hu))).k hk
  |_=>exact OpK.no
 |index t x i=>
  have h1:=hg t (by rw[ho];simp[tyO]);have hk:kOp cvT o.op=0:=by rw[ho];rfl
  show OpK F P o s fun k=>idxC t x i s k;unfold idxC;cases hu:und s.ti t with
  |array n el=>exact(ok_iaa ho (by rw[T.und t h1,hu]) (T.isAgg (T.ar t n el h1 hu)) (T.sizeOf (T.ar t n el h1 hu))).k hk
  |string=>exact(ok_idx ho (by rw[T.und t h1,hu])).k hk
  |_=>exact OpK.no
 |lookup t x y ok=>
  have h1:=hg t (by rw[ho];simp[tyO]);have hdf:∀d,o.op≠.defer d:=fun d hd=>by rw[ho]at hd;cases hd
  show OpK F P o s fun k=>lkpC t x y ok s k;unfold lkpC;cases hu:und s.ti t with
  |map q el=>
   refine OpK.if (W:=fun k=>oW (zero1 s.ti el) fun z=>⟨lkpF ok z (opd s x) (opd s y) k⟩) (V:=fun _=>noW) (fun hc=>OpK.ow (W:=fun z k=>⟨lkpF ok z (opd s x) (opd s y) k⟩) fun l hl=>?_) fun _=>OpK.no;obtain⟨g1,g2⟩:=T.mp t q el h1 hu;obtain⟨z,hz,rfl⟩:=zero1_ok hl;exact(ok_lkp ho (by rw[T.und t h1,hu]) (by rw[T.und q g1,isStrT_ok hc]) (T.zeroValue g2 hz)).k hF (by rw[ho];rfl) hdf
  |_=>exact OpK.no
 |mapUpdate t m y x=>
  have h1:=hg t (by rw[ho];simp[tyO]);have hdf:∀d,o.op≠.defer d:=fun d hd=>by rw[ho]at hd;cases hd
  show OpK F P o s fun k=>mupC t m y x s k;unfold mupC;cases hu:und s.ti t with
  |map q el=>
   refine OpK.if (W:=fun k=>⟨mupF (opd s m) (opd s y) (opd s x) k⟩) (V:=fun _=>noW) (fun hc=>?_) fun _=>OpK.no;obtain⟨g1,g2⟩:=T.mp t q el h1 hu;exact(ok_mup ho (by rw[T.und t h1,hu]) (by rw[T.und q g1,isStrT_ok hc])).k hF (by rw[ho];rfl) hdf
  |_=>exact OpK.no
 |typeAssert x u t ok=>
  have h1:=hg t (by rw[ho];simp[tyO]);refine OpK.if (W:=fun _=>noW) (V:=fun k=>bif ok then oW (zero1 s.ti t) fun z=>⟨taF t z (opd s x) k⟩ else ⟨ta1F t (opd s x) k⟩) (fun _=>OpK.no) fun hc=>?_;cases ok with
  |true=>
   refine OpK.ow (W:=fun z k=>⟨taF t z (opd s x) k⟩) fun l hl=>?_;obtain⟨z,hz,rfl⟩:=zero1_ok hl;exact(ok_ta ho (T.und t h1) (isIf_ok hc) (T.zeroValue h1 hz)).k (by rw[ho];rfl)
  |false=>exact(ok_ta1 ho (T.und t h1) (isIf_ok hc)).k (by rw[ho];rfl)
 |extract x i=>exact(ok_ext ho).k (by rw[ho];rfl)
 |call c=>
  show OpK F P o s fun k=>calC c s k;unfold calC;cases hc:c.callee with
  |value g=>cases g with
   |func f=>exact(ok_cal hF ho hc).k (by rw[ho];show(match c.callee with|.builtin .len|.builtin .min|.builtin .max=>0|_=>3)=3;rw[hc])
   |tmp t=>exact(ok_calV hF ho hc).k (by rw[ho];show(match c.callee with|.builtin .len|.builtin .min|.builtin .max=>0|_=>3)=3;rw[hc])
   |const v=>exact(ok_calV hF ho hc).k (by rw[ho];show(match c.callee with|.builtin .len|.builtin .min|.builtin .max=>0|_=>3)=3;rw[hc])
   |global g=>exact(ok_calV hF ho hc).k (by rw[ho];show(match c.callee with|.builtin .len|.builtin .min|.builtin .max=>0|_=>3)=3;rw[hc])
  |invoke r m=>exact(ok_inv hF T ho hc).k (by rw[ho];show(match c.callee with|.builtin .len|.builtin .min|.builtin .max=>0|_=>3)=3;rw[hc])
  |builtin b=>exact blt_ok hF T ho hc fun u hu=>hg u (by rw[ho];exact hu)
 |_=>exact OpK.no
end Go.Proofs.YtglihimiidiacaaGreatDoor.Ev8
namespace Go.Proofs.YtglihimiidiacaaGreatDoor.Ev8
open Go
variable {P:Program} {ι ι':Io}
def eget:E→Nat→Option AV
 |.emp,_=>none
 |.c v _,0=>some v
 |.c _ t,n+1=>eget t n
def eLen:E→Nat
 |.emp=>0
 |.c _ t=>eLen t+1
theorem eW_eq:∀(n:Nat) {e:E} {tm:TM} {v:AV},eget e n=some v→(eW n).f e tm=v
 |0,.c v _,tm,u,h=>by simp only[eget,Option.some.injEq]at h;subst h;rfl
 |n+1,.c _ t,tm,u,h=>eW_eq n (e:=t) h
 |0,.emp,_,_,h=>by cases h
 |n+1,.emp,_,_,h=>by cases h
theorem tmW_eq{vs:List Nat}{t n:Nat}(h:pos t vs 0=some n)(e:E)(tm:TM):(tmW vs t).f e tm=tget n tm:=by
 simp only[tmW,h];rfl
theorem tmW_no{vs:List Nat}{t:Nat}(h:pos t vs 0=none)(e:E)(tm:TM):(tmW vs t).f e tm=.un:=by
 simp only[tmW,h]
def RefOk(s:Sx)(rest:List Oper)(e:E)(tm:TM)(v:AV):Ref→Prop
 |.p i=>i<s.n∧eget e (s.n-1-i)=some v
 |.o x=>(∀e tm,x.f e tm=v)∨∃y n,pos y s.vs 0=some n∧x=tmW s.vs y∧wrt y rest=false∧tget n tm=v
structure DsOk (s:Sx) (rest:List Oper) (e:E) (tm:TM) (θ:Te):Prop where
 len:eLen e=s.n
 ref:∀t r,find t s.ds=some r→RefOk s rest e tm (θ t) r
 tms:∀t n,pos t s.vs 0=some n→tget n tm=θ t
theorem DsOk.ov{s:Sx}{rest:List Oper}{e:E}{tm:TM}{θ:Te}(h:DsOk s rest e tm θ):OV s θ e tm:=by
 intro x;cases x with
 |const v=>exact .inl rfl
 |global g=>exact .inl rfl
 |func f=>exact .inl rfl
 |tmp t=>
  simp only[opd,aev];cases hf:find t s.ds with
  |none=>
   simp only;cases hp:pos t s.vs 0 with
   |none=>exact .inr (tmW_no hp e tm)
   |some n=>left;rw[tmW_eq hp];exact h.tms t n hp
  |some r=>
   have hr:=h.ref t r hf;cases r with
   |p i=>left;exact eW_eq _ hr.2
   |o x=>
    simp only;rcases hr with h1|⟨y,n,h1,rfl,-,h4⟩
    ·left;exact h1 e tm
    ·left;rw[tmW_eq h1];exact h4
def thN(θ:Te)(d:Option Tmp)(u:AV):Te:=match d with|none=>θ|some t=>upd θ t u
def tmN(vs:List Nat)(d:Option Tmp)(u:AV)(tm:TM):TM:=match d with
 |none=>tm
 |some t=>match pos t vs 0 with
  |some n=>tput n u tm
  |none=>tm
theorem topW_eq(vs:List Nat)(d:Option Tmp)(k:WR)(X:Cx)(u:AV)(e:E)(tm:TM)(H:HS):(topW vs d k).f X (.c u e) tm H=k.f X (.c u e) (tmN vs d u tm) H:=by
 cases d with
 |none=>rfl
 |some t=>
  simp only[topW,tmN];cases hp:pos t vs 0 with
  |none=>rfl
  |some n=>exact tw_put n u tm _
theorem find_cons{d t:Nat}{r:Ref}{ds:Ds}:find t ((d,r)::ds)=if d=t then some r else find t ds:=by
 simp only[find,beq_dec];by_cases h:d=t<;>simp[h]
theorem wrt_cons{y:Nat}{o:Oper}{rest:List Oper}(h:wrt y (o::rest)=false):(∀d,o.dst=some d→d≠y)∧wrt y rest=false:=by
 simp only[wrt]at h;cases ho:o.dst with
 |none=>rw[ho]at h;exact⟨fun d hd=>(by cases hd),h⟩
 |some d=>
  rw[ho]at h;have h':Nat.beq d y=false∧wrt y rest=false:=by simpa using h
  refine⟨fun d' hd=>?_,h'.2⟩;simp only[Option.some.injEq]at hd;subst hd;exact Nat.ne_of_beq_eq_false h'.1
theorem tget_tmN{vs:List Nat}{d:Option Tmp}{u:AV}{tm:TM}{y n:Nat}(hvs:vs.length≤72)(hy:pos y vs 0=some n)(h:∀t,d=some t→t≠y):tget n (tmN vs d u tm)=tget n tm:=by
 cases d with
 |none=>rfl
 |some t=>
  simp only[tmN];cases hp:pos t vs 0 with
  |none=>rfl
  |some m=>
   have h1:=(pos_ge hp).2;have h2:=(pos_ge hy).2;exact tget_ne u tm (by omega) (by omega) fun q=>h t rfl (pos_inj hp (q▸hy))
theorem tms_put{vs:List Nat}{tm:TM}{θ:Te}(hvs:vs.length≤72)(h:∀t n,pos t vs 0=some n→tget n tm=θ t)(d:Option Tmp)(u:AV):∀t n,pos t vs 0=some n→tget n (tmN vs d u tm)=thN θ d u t:=by
 intro t n hp;cases d with
 |none=>exact h t n hp
 |some y=>
  by_cases e:t=y
  ·subst e;simp only[tmN,hp,thN,upd_same];exact tget_tput n u tm
  ·rw[tget_tmN hvs hp (fun z hz=>by simp only[Option.some.injEq]at hz;subst hz;exact Ne.symm e)];simp only[thN,upd_ne _ e];exact h t n hp
theorem thN_ne{θ:Te}{d:Option Tmp}{u:AV}{t:Nat}(h:∀y,d=some y→y≠t):thN θ d u t=θ t:=by
 cases d with
 |none=>rfl
 |some y=>simp only[thN];exact upd_ne _ (Ne.symm (h y rfl)) u
theorem RefOk.keep{s s':Sx}{o:Oper}{rest:List Oper}{e e':E}{tm tm':TM}{v:AV}{r:Ref}(h:RefOk s (o::rest) e tm v r)(hv:s'.vs=s.vs)(hn:s.n≤s'.n)(he:∀i x,i<s.n→eget e (s.n-1-i)=some x→eget e' (s'.n-1-i)=some x)(ht:∀y n,pos y s.vs 0=some n→(∀t,o.dst=some t→t≠y)→tget n tm'=tget n tm):RefOk s' rest e' tm' v r:=by
 cases r with
 |p i=>exact⟨Nat.lt_of_lt_of_le h.1 hn,he i v h.1 h.2⟩
 |o x=>
  rcases h with h1|⟨y,n,h1,h2,h3,h4⟩
  ·exact .inl h1
  ·obtain⟨w1,w2⟩:=wrt_cons h3;exact .inr ⟨y,n,by rw[hv];exact h1,by rw[hv];exact h2,w2,by rw[ht y n h1 w1];exact h4⟩
theorem eget_c{e:E}{u:AV}{n i:Nat}{x:AV}(hi:i<n)(h:eget e (n-1-i)=some x):eget (.c u e) (n+1-1-i)=some x:=by
 rw[show n+1-1-i=(n-1-i)+1 by omega];exact h
theorem DsOk.one{s:Sx}{o:Oper}{rest:List Oper}{e:E}{tm:TM}{θ:Te}(hd:DsOk s (o::rest) e tm θ)(hvs:s.vs.length≤72)(u:AV):DsOk (s.one o.dst) rest (.c u e) (tmN s.vs o.dst u tm) (thN θ o.dst u):=by
 have hn:(s.one o.dst).n=s.n+1:=by cases o.dst<;>rfl
 have hv:(s.one o.dst).vs=s.vs:=by cases o.dst<;>rfl
 have old:∀t r,(∀d,o.dst=some d→d≠t)→RefOk s (o::rest) e tm (θ t) r→RefOk (s.one o.dst) rest (.c u e) (tmN s.vs o.dst u tm) (thN θ o.dst u t) r:=by
  intro t r hne h;rw[thN_ne hne];exact h.keep hv (by rw[hn];omega) (fun i x hi hx=>by rw[hn];exact eget_c hi hx) fun y n hy hw=>tget_tmN hvs hy hw
 refine⟨by rw[hn];show eLen e+1=_;rw[hd.len],fun t r hf=>?_,by rw[hv];exact tms_put hvs hd.tms o.dst u⟩;cases ho:o.dst with
 |none=>
  rw[ho]at hf;have:=old t r (fun d h=>by rw[ho]at h;cases h) (hd.ref t r hf);rw[ho]at this;exact this
 |some d=>
  rw[ho]at hf;have hf':find t ((d,Ref.p s.n)::s.ds)=some r:=hf;rw[find_cons]at hf';by_cases e1:d=t
  ·rw[if_pos e1]at hf';simp only[Option.some.injEq]at hf';subst hf';subst e1;refine⟨Nat.lt_succ_self _,?_⟩;show eget (.c u e) (s.n+1-1-s.n)=_;rw[show s.n+1-1-s.n=0 by omega];simp[eget,thN,upd_same]
  ·rw[if_neg e1]at hf';have:=old t r (fun d' h=>by rw[ho]at h;simp only[Option.some.injEq]at h;subst h;exact e1) (hd.ref t r hf');rw[ho]at this;exact this
theorem DsOk.drop{s:Sx}{o:Oper}{rest:List Oper}{e:E}{tm:TM}{θ:Te}(hd:DsOk s (o::rest) e tm θ)(hfr:isFr s o.dst=true)(u:AV):DsOk s rest e tm (thN θ o.dst u):=by
 cases ho:o.dst with
 |none=>rw[ho]at hfr;cases hfr
 |some d=>
  rw[ho]at hfr;obtain⟨c1,c2⟩:=and_ok hfr;have hp:pos d s.vs 0=none:=by
   unfold isLoc at c1;simp only at c1;cases h:pos d s.vs 0 with
   |none=>rfl
   |some n=>rw[h]at c1;cases c1
  have hf:find d s.ds=none:=by
   cases h:find d s.ds with
   |none=>rfl
   |some r=>rw[h]at c2;cases c2
  refine⟨hd.len,fun t r hr=>?_,fun t n hn=>?_⟩
  ·have hne:t≠d:=fun q=>by subst q;rw[hf]at hr;cases hr
   have:=(hd.ref t r hr).keep (s':=s) (e':=e) (tm':=tm) rfl (Nat.le_refl _) (fun i x _ hx=>hx) fun _ _ _ _=>rfl;simp only[thN,upd_ne _ hne];exact this
  ·have hne:t≠d:=fun q=>by subst q;rw[hp]at hn;cases hn
   simp only[thN,upd_ne _ hne];exact hd.tms t n hn
end Go.Proofs.YtglihimiidiacaaGreatDoor.Ev8
namespace Go.Proofs.YtglihimiidiacaaGreatDoor.Ev8
open Go
variable {P:Program} {ι ι':Io}
def GStep(F:Fence)(P:Program)(all:List Oper)(θ:Te)(H:HS)(o:Oper)(u:AV)(H':HS):Prop:=match o.guard with
 |none=>KStep F P θ H o u H'
 |some g=>∃oj t,all[g.1]?=some oj∧oj.dst=some t∧((θ t=.b g.2∧KStep F P θ H o u H')∨((θ t=.b (!g.2)∨∃v,θ t=.v v∧notB v=true)∧u=.v undef∧H'=H))
def GRe(F:Fence)(P:Program)(all:List Oper)(θ:Te)(H:HS)(o:Oper)(d:Tmp):Prop:=match o.guard with
 |none=>KStep F P θ H o (θ d) H
 |some g=>∃oj t,all[g.1]?=some oj∧oj.dst=some t∧((θ t=.b g.2∧KStep F P θ H o (θ d) H)∨(θ t=.b (!g.2)∨∃v,θ t=.v v∧notB v=true))
def PStep(F:Fence)(P:Program)(θ:Te)(H:HS)(o1 o2:Oper)(u:AV)(H':HS):Prop:=∀ι a w,HR ι H w→Ops ι θ o1 a→(∀x∈o2.op.operands.toList,(∀t,o1.dst=some t→x≠.tmp t)→RV ι (aev θ x) (a.eval x))→(∀t,o1.dst=some t→t<a.tmps.size)→
 ∀(next:Act→World→Prop) (Q:Exit→Act→World→Prop),(∀v1 v2 w' ι',RV ι' u v2→HR ι' H' w'→Go1 ι (hp H.h) w ι' (hp H'.h) H'.nx w'→next ((a.put o1.dst v1).put o2.dst v2) w')→o1.wpIn F 0 P a w (fun a1 w1=>o2.wpIn F 0 P a1 w1 next Q) Q
inductive Tra (F:Fence) (P:Program) (all:List Oper):Bool→List Pl→Te→HS→Te→HS→Prop
 |nil {fa:Bool} {θ:Te} {H:HS}:Tra F P all fa [] θ H θ H
 |op {fa:Bool} {o:Oper} {l:List Pl} {θ θ':Te} {H H1 H':HS} {u:AV} (h:GStep F P all θ H o u H1) (t:Tra F P all fa l (thN θ o.dst u) H1 θ' H'):Tra F P all fa (.op o::l) θ H θ' H'
 |re {fa:Bool} {o:Oper} {l:List Pl} {θ θ':Te} {H H':HS} {d:Tmp} (hd:o.dst=some d) (h:GRe F P all θ H o d) (t:Tra F P all fa l θ H θ' H'):Tra F P all fa (.re o::l) θ H θ' H'
 |two {o1 o2:Oper} {l:List Pl} {θ θ':Te} {H H1 H':HS} {u:AV} (g1:o1.guard=none) (g2:o2.guard=none) (h:PStep F P θ H o1 o2 u H1) (t:Tra F P all true l (thN (thN θ o1.dst .un) o2.dst u) H1 θ' H'):Tra F P all true (.op o1::.op o2::l) θ H θ' H'
theorem sp_mov{op:Op}{x:Operand}(h:spOf op=.mov x):op=.move x:=by
 cases op<;>first|(change Sp.mov _=Sp.mov x at h;cases h;rfl)|(change Sp.no=_ at h;cases h)|(change Sp.asg _=_ at h;cases h)|(change Sp.bsl _ _ _=_ at h;cases h)|(change Sp.ld _ _=_ at h;cases h)|(change Sp.st _ _ _=_ at h;cases h)|(change Sp.nil _=_ at h;cases h)|(change Sp.fld _ _ _=_ at h;cases h)|skip
 rename_i c
 change spC c=_ at h;unfold spC at h;split at h<;>(try split at h)<;>cases h
theorem sp_asg{op:Op}{x:Operand}(h:spOf op=.asg x):op=.assign x:=by
 cases op<;>first|(change Sp.asg _=Sp.asg x at h;cases h;rfl)|(change Sp.no=_ at h;cases h)|(change Sp.mov _=_ at h;cases h)|(change Sp.bsl _ _ _=_ at h;cases h)|(change Sp.ld _ _=_ at h;cases h)|(change Sp.st _ _ _=_ at h;cases h)|(change Sp.nil _=_ at h;cases h)|(change Sp.fld _ _ _=_ at h;cases h)|skip
 rename_i c
 change spC c=_ at h;unfold spC at h;split at h<;>(try split at h)<;>cases h
theorem sp_nil{op:Op}{x:Operand}(h:spOf op=.nil x):op=.nilCheck x:=by
 cases op<;>first|(change Sp.nil _=Sp.nil x at h;cases h;rfl)|(change Sp.no=_ at h;cases h)|(change Sp.mov _=_ at h;cases h)|(change Sp.asg _=_ at h;cases h)|(change Sp.bsl _ _ _=_ at h;cases h)|(change Sp.ld _ _=_ at h;cases h)|(change Sp.st _ _ _=_ at h;cases h)|(change Sp.fld _ _ _=_ at h;cases h)|skip
 rename_i c
 change spC c=_ at h;unfold spC at h;split at h<;>(try split at h)<;>cases h
theorem sp_fld{op:Op}{t:TypeId}{x:Operand}{f:Nat}(h:spOf op=.fld t x f):op=.fieldAddr t x f:=by
 cases op<;>first|(change Sp.fld _ _ _=Sp.fld t x f at h;cases h;rfl)|(change Sp.no=_ at h;cases h)|(change Sp.mov _=_ at h;cases h)|(change Sp.asg _=_ at h;cases h)|(change Sp.bsl _ _ _=_ at h;cases h)|(change Sp.ld _ _=_ at h;cases h)|(change Sp.st _ _ _=_ at h;cases h)|(change Sp.nil _=_ at h;cases h)|skip
 rename_i c
 change spC c=_ at h;unfold spC at h;split at h<;>(try split at h)<;>cases h
theorem sp_ld{op:Op}{t:TypeId}{x:Operand}(h:spOf op=.ld t x):op=.load t x:=by
 cases op<;>first|(change Sp.ld _ _=Sp.ld t x at h;cases h;rfl)|(change Sp.no=_ at h;cases h)|(change Sp.mov _=_ at h;cases h)|(change Sp.asg _=_ at h;cases h)|(change Sp.bsl _ _ _=_ at h;cases h)|(change Sp.fld _ _ _=_ at h;cases h)|(change Sp.st _ _ _=_ at h;cases h)|(change Sp.nil _=_ at h;cases h)|skip
 rename_i c
 change spC c=_ at h;unfold spC at h;split at h<;>(try split at h)<;>cases h
theorem sp_st{op:Op}{t:TypeId}{x y:Operand}(h:spOf op=.st t x y):op=.store t x y:=by
 cases op<;>first|(change Sp.st _ _ _=Sp.st t x y at h;cases h;rfl)|(change Sp.no=_ at h;cases h)|(change Sp.mov _=_ at h;cases h)|(change Sp.asg _=_ at h;cases h)|(change Sp.bsl _ _ _=_ at h;cases h)|(change Sp.fld _ _ _=_ at h;cases h)|(change Sp.ld _ _=_ at h;cases h)|(change Sp.nil _=_ at h;cases h)|skip
 rename_i c
 change spC c=_ at h;unfold spC at h;split at h<;>(try split at h)<;>cases h
theorem sp_bsl{op:Op}{t:TypeId}{n:Nat}{ps:List (Nat×Operand)}(h:spOf op=.bsl t n ps):∃qs:Array (Nat×Operand),op=.buildSlice t n qs∧qs.toList=ps:=by
 cases op<;>first|(change Sp.bsl _ _ _=Sp.bsl t n ps at h;cases h;exact⟨_,rfl,rfl⟩)|(change Sp.no=_ at h;cases h)|(change Sp.mov _=_ at h;cases h)|(change Sp.asg _=_ at h;cases h)|(change Sp.st _ _ _=_ at h;cases h)|(change Sp.fld _ _ _=_ at h;cases h)|(change Sp.ld _ _=_ at h;cases h)|(change Sp.nil _=_ at h;cases h)|skip
 rename_i c
 change spC c=_ at h;unfold spC at h;split at h<;>(try split at h)<;>cases h
theorem sp_app{op:Op}{x y:Operand}{ts:List TypeId}(h:spOf op=.app x y ts):∃(args:Array Operand) (tsA:Array TypeId),op=.call {callee:=.builtin .append,args:=args,argTypes:=tsA}∧args.toList=[x,y]∧tsA.toList=ts:=by
 cases op<;>first|(change Sp.no=_ at h;cases h)|(change Sp.mov _=_ at h;cases h)|(change Sp.asg _=_ at h;cases h)|(change Sp.st _ _ _=_ at h;cases h)|(change Sp.bsl _ _ _=_ at h;cases h)|(change Sp.fld _ _ _=_ at h;cases h)|(change Sp.ld _ _=_ at h;cases h)|(change Sp.nil _=_ at h;cases h)|skip
 rename_i c
 obtain⟨cl,args,tsA⟩:=c;change spC _=_ at h;unfold spC at h;simp only at h;split at h
 ·split at h
  ·rename_i x' y' ha
   cases h;exact⟨args,tsA,rfl,ha,rfl⟩
  ·cases h
 ·cases h
end Go.Proofs.YtglihimiidiacaaGreatDoor.Ev8
namespace Go.Proofs.YtglihimiidiacaaGreatDoor.Ev8
open Go
variable {P:Program} {ι ι':Io} {F:Fence} {X:Cx} {fin:Sx→WR}
def RgR(F:Fence)(P:Program)(X:Cx)(fin:Sx→WR)(s:Sx)(l:List Pl)(θ:Te)(H:HS)(R:Res):Prop:=∃θ' H' s' e' tm',Tra F P s.all s.fa l θ H θ' H'∧(fin s').f X e' tm' H'=R∧DsOk s' [] e' tm' θ'∧s'.vs=s.vs∧s'.ti=s.ti
def RgOk(F:Fence)(P:Program)(X:Cx)(fin:Sx→WR)(ih:Rg):Prop:=∀l s e tm H θ R,TyOk P s.ti→s.vs.length≤72→(∀o∈l,opOk o=true)→DsOk s l e tm θ→R≠.fail→(ih l s).f X e tm H=R→RgR F P X fin s (l.map .op) θ H R
theorem one_vs(s:Sx)(d:Option Tmp):(s.one d).vs=s.vs:=by cases d<;>rfl
theorem one_ti(s:Sx)(d:Option Tmp):(s.one d).ti=s.ti:=by cases d<;>rfl
theorem one_all(s:Sx)(d:Option Tmp):(s.one d).all=s.all:=by cases d<;>rfl
theorem one_fa(s:Sx)(d:Option Tmp):(s.one d).fa=s.fa:=by cases d<;>rfl
theorem add_vs(s:Sx)(d:Option Tmp)(r:Ref):(s.add d r).vs=s.vs:=by cases d<;>rfl
theorem add_ti(s:Sx)(d:Option Tmp)(r:Ref):(s.add d r).ti=s.ti:=by cases d<;>rfl
theorem add_all(s:Sx)(d:Option Tmp)(r:Ref):(s.add d r).all=s.all:=by cases d<;>rfl
theorem add_fa(s:Sx)(d:Option Tmp)(r:Ref):(s.add d r).fa=s.fa:=by cases d<;>rfl
theorem RgR.as{s s':Sx}{l:List Pl}{θ:Te}{H:HS}{R:Res}(h:RgR F P X fin s' l θ H R)(h1:s'.vs=s.vs)(h2:s'.ti=s.ti)(h3:s'.all=s.all)(h4:s'.fa=s.fa):RgR F P X fin s l θ H R:=by
 obtain⟨θ',H',s2,e',tm',k1,k2,k3,k4,k5⟩:=h;rw[h3,h4]at k1;exact⟨θ',H',s2,e',tm',k1,k2,k3,k4.trans h1,k5.trans h2⟩
theorem RgR.op{s:Sx}{o:Oper}{l:List Pl}{θ:Te}{H H1:HS}{u:AV}{R:Res}(hg:GStep F P s.all θ H o u H1)(h:RgR F P X fin s l (thN θ o.dst u) H1 R):RgR F P X fin s (.op o::l) θ H R:=by
 obtain⟨θ',H',s2,e',tm',k1,k2⟩:=h;exact⟨θ',H',s2,e',tm',.op hg k1,k2⟩
theorem go_core{ih:Rg}(hF:WF F)(hC:CallOk P X.ih)(hY:RndOk P X.ih)(hih:RgOk F P X fin ih){o:Oper}{rest:List Oper}{s:Sx}{e:E}{tm:TM}{H:HS}{θ:Te}{R:Res}(T:TyOk P s.ti)(hvs:s.vs.length≤72)(hok:∀o'∈o::rest,opOk o'=true)(hd:DsOk s (o::rest) e tm θ)(hR:R≠.fail)(h:(goC P ih o rest s).f X e tm H=R):
 ∃u H1,KStep F P θ H o u H1∧RgR F P X fin s (rest.map .op) (thN θ o.dst u) H1 R:=by
 obtain⟨u,H1,h1,h2⟩:=mkC_ok hF T (hok o (List.mem_cons_self ..)) (topW s.vs o.dst (ih rest (s.one o.dst))) X e tm H θ R hC hY hd.ov hR h;rw[topW_eq]at h1;exact⟨u,H1,h2,(hih rest (s.one o.dst) _ _ H1 _ R (by rw[one_ti];exact T) (by rw[one_vs];exact hvs) (fun o' ho=>hok o' (List.mem_cons_of_mem _ ho)) (hd.one hvs u) hR h1).as (one_vs _ _) (one_ti _ _) (one_all _ _) (one_fa _ _)⟩
theorem go_ok{ih:Rg}(hF:WF F)(hC:CallOk P X.ih)(hY:RndOk P X.ih)(hih:RgOk F P X fin ih){o:Oper}{rest:List Oper}{s:Sx}{e:E}{tm:TM}{H:HS}{θ:Te}{R:Res}(hg:o.guard=none)(T:TyOk P s.ti)(hvs:s.vs.length≤72)(hok:∀o'∈o::rest,opOk o'=true)(hd:DsOk s (o::rest) e tm θ)(hR:R≠.fail)(h:(goC P ih o rest s).f X e tm H=R):RgR F P X fin s ((o::rest).map .op) θ H R:=by
 obtain⟨u,H1,h1,h2⟩:=go_core hF hC hY hih T hvs hok hd hR h;exact RgR.op (by unfold GStep;rw[hg];exact h1) h2
theorem gdG_ok{want:Bool}{Y N:Unit→Res}{a:AV}{R:Res}(h:gdG want Y N a=R)(hR:R≠.fail):(a=.b want∧Y ()=R)∨((a=.b (!want)∨∃v,a=.v v∧notB v=true)∧N ()=R):=by
 cases a with
 |v x=>obtain⟨c,h1⟩:=tst hR h;exact .inr ⟨.inr ⟨x,rfl,c⟩,h1⟩
 |b x=>
  change Bool.rec (motive:=fun _=>Res) (Y ()) (N ()) (Bool.xor x want)=R at h;cases x<;>cases want
  ·exact .inl ⟨rfl,h⟩
  ·exact .inr ⟨.inl rfl,h⟩
  ·exact .inr ⟨.inl rfl,h⟩
  ·exact .inl ⟨rfl,h⟩
 |_=>exact absurd h.symm hR
theorem is_of{s:Sx}{θ:Te}{e:E}{tm:TM}(hO:OV s θ e tm){t:Tmp}{p:AV}(h:(opd s (.tmp t)).f e tm=p)(hp:p≠.un):θ t=p:=hO.is (x:=.tmp t) h hp
theorem gd_ok{ih:Rg}(hF:WF F)(hC:CallOk P X.ih)(hY:RndOk P X.ih)(hih:RgOk F P X fin ih){o:Oper}{rest:List Oper}{s:Sx}{e:E}{tm:TM}{H:HS}{θ:Te}{R:Res}{g:Nat×Bool}(hg:o.guard=some g)(T:TyOk P s.ti)(hvs:s.vs.length≤72)(hok:∀o'∈o::rest,opOk o'=true)(hd:DsOk s (o::rest) e tm θ)(hR:R≠.fail)(h:(gdC P ih o rest s g.1 g.2).f X e tm H=R):RgR F P X fin s ((o::rest).map .op) θ H R:=by
 unfold gdC at h;cases hj:nth s.all g.1 with
 |none=>rw[hj]at h;exact absurd h.symm hR
 |some oj=>
  rw[hj]at h;simp only at h;cases ht:oj.dst with
  |none=>rw[ht]at h;exact absurd h.symm hR
  |some t=>
   rw[ht]at h;simp only at h;have hj':s.all[g.1]?=some oj:=by rw[←nth_eq];exact hj
   rcases gdG_ok h hR with⟨h1,h2⟩|⟨h1,h2⟩
   ·obtain⟨u,H1,h3,h4⟩:=go_core hF hC hY hih T hvs hok hd hR h2;refine RgR.op ?_ h4;unfold GStep;rw[hg];exact⟨oj,t,hj',ht,.inl ⟨is_of hd.ov h1 (by simp),h3⟩⟩
   ·change (topW s.vs o.dst (ih rest (s.one o.dst))).f X (.c (.v undef) e) tm H=R at h2;rw[topW_eq]at h2;have h4:=(hih rest (s.one o.dst) _ _ H _ R (by rw[one_ti];exact T) (by rw[one_vs];exact hvs) (fun o' ho=>hok o' (List.mem_cons_of_mem _ ho)) (hd.one hvs (.v undef)) hR h2).as (one_vs _ _) (one_ti _ _) (one_all _ _) (one_fa _ _);refine RgR.op (u:=.v undef) (H1:=H) ?_ h4;unfold GStep;rw[hg];refine⟨oj,t,hj',ht,.inr ⟨?_,rfl,rfl⟩⟩;rcases h1 with h1|⟨v,h1,h5⟩
    ·exact .inl (is_of hd.ov h1 (by simp))
    ·exact .inr ⟨v,is_of hd.ov h1 (by simp),h5⟩
theorem loc_pos{vs:List Nat}{d:Option Tmp}(h:isLoc vs d=true):∃t,d=some t∧pos t vs 0=none:=by
 cases d with
 |none=>cases h
 |some t=>
  refine⟨t,rfl,?_⟩;unfold isLoc at h;simp only at h;cases hp:pos t vs 0 with
  |none=>rfl
  |some n=>rw[hp]at h;cases h
theorem DsOk.add{s:Sx}{o:Oper}{rest:List Oper}{e:E}{tm:TM}{θ:Te}(hd:DsOk s (o::rest) e tm θ){t:Tmp}(ho:o.dst=some t){u:AV}{r:Ref}{tm':TM}(ht:∀y n,pos y s.vs 0=some n→t≠y→tget n tm'=tget n tm)(hp:∀n,pos t s.vs 0=some n→tget n tm'=u)(hr:RefOk s rest e tm' u r):DsOk (s.add o.dst r) rest e tm' (thN θ o.dst u):=by
 rw[ho];refine⟨hd.len,fun t' r' hf=>?_,fun t' n hn=>?_⟩
 ·have hf':find t' ((t,r)::s.ds)=some r':=hf;rw[find_cons]at hf';by_cases e1:t=t'
  ·rw[if_pos e1]at hf';simp only[Option.some.injEq]at hf';subst hf';subst e1;simp only[thN,upd_same];cases r with
   |p i=>exact hr
   |o x=>exact hr
  ·rw[if_neg e1]at hf';simp only[thN,upd_ne _ (Ne.symm e1)];have:=(hd.ref t' r' hf').keep (s':=s.add (some t) r) (e':=e) (tm':=tm') rfl (Nat.le_refl _) (fun i x _ hx=>hx) fun y n hy hw=>ht y n hy (hw t ho);exact this
 ·have hn':pos t' s.vs 0=some n:=hn;by_cases e1:t'=t
  ·subst e1;simp only[thN,upd_same];exact hp n hn'
  ·simp only[thN,upd_ne _ e1];rw[ht t' n hn' (Ne.symm e1)];exact hd.tms t' n hn'
theorem mov_step{s:Sx}{o:Oper}{θ:Te}{e:E}{tm:TM}{x:Operand}(ho:o.op=.move x∨o.op=.assign x)(hO:OV s θ e tm){H:HS}:KStep F P θ H o ((opd s x).f e tm) H:=by
 have hk:kOp cvT o.op=0:=by rcases ho with ho|ho<;>rw[ho]<;>rfl
 unfold KStep;rw[hk];refine⟨rfl,fun ι a w hx=>?_⟩;rcases ho with ho|ho
 ·exact rd_move (ρ:=fun _=>(opd s x).f e tm) ho (hO.rv (hx x (by simp[ho,Op.operands])))
 ·exact rd_assign (ρ:=fun _=>(opd s x).f e tm) ho (hO.rv (hx x (by simp[ho,Op.operands])))
theorem alias_ok{s:Sx}{o:Oper}{rest:List Oper}{e:E}{tm:TM}{θ:Te}(hd:DsOk s (o::rest) e tm θ){x:Operand}{r:Ref}(h:alias s rest x=some r)(_hw:∀t,o.dst=some t→pos t s.vs 0=none):RefOk s rest e tm ((opd s x).f e tm) r:=by
 cases x with
 |const v=>simp only[alias,Option.some.injEq]at h;subst h;exact .inl fun _ _=>rfl
 |global g=>simp only[alias,Option.some.injEq]at h;subst h;exact .inl fun _ _=>rfl
 |func f=>simp only[alias,Option.some.injEq]at h;subst h;exact .inl fun _ _=>rfl
 |tmp y=>
  simp only[alias]at h;cases hf:find y s.ds with
  |some r'=>
   rw[hf]at h;simp only[Option.some.injEq]at h;subst h;have hr:=hd.ref y r' hf;have hv:(opd s (.tmp y)).f e tm=θ y:=by
    simp only[opd,hf];cases r' with
    |p i=>exact eW_eq _ hr.2
    |o x=>
     rcases hr with h1|⟨z,n,h1,rfl,-,h4⟩
     ·exact h1 e tm
     ·simp only;rw[tmW_eq h1];exact h4
   rw[hv];exact hr.keep rfl (Nat.le_refl _) (fun i x _ hx=>hx) fun _ _ _ _=>rfl
  |none=>
   rw[hf]at h;simp only at h;cases hwr:wrt y rest with
   |true=>rw[hwr]at h;cases h
   |false=>
    rw[hwr]at h;simp only[cond_false,Option.some.injEq]at h;subst h;cases hp:pos y s.vs 0 with
    |none=>
     left
     intro e' tm';simp only[opd,hf];rw[tmW_no hp,tmW_no hp]
    |some n=>
     right
     refine⟨y,n,hp,rfl,hwr,?_⟩;simp only[opd,hf];rw[tmW_eq hp]
end Go.Proofs.YtglihimiidiacaaGreatDoor.Ev8
