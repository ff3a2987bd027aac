import Derived.Test.YtglihimiidiacaaGreatDoorEe
import Derived.OrdersIn
namespace Go.Proofs.YtglihimiidiacaaGreatDoor.Ev8
open Go
variable {P:Program} {ι ι':Io} {F:Fence} {X:Cx} {fin:Sx→WR}
theorem Rel.push{h:Hp}{nx:Nat}{w w':World}{b:Obj}(hr:Rel ι h nx w)(hw:w'.heap=w.heap.push b):Rel ι h nx w' where
 blk b' hb:=by
  obtain⟨E,h1,h2⟩:=hr.blk b' hb;refine⟨E,h1,h2.heap ?_⟩;have:=hr.inn b' E h1;rw[hw,Array.getElem?_push_lt this,Array.getElem?_eq_getElem this]
 new:=hr.new
 apart:=hr.apart
 inn b' E hE:=by rw[hw,Array.size_push];exact Nat.lt_succ_of_lt (hr.inn b' E hE)
theorem Go1.push{h:Hp}{nx:Nat}{w w':World}{b:Obj}(hr:Rel ι h nx w)(hw:w'.heap=w.heap.push b)(he:Env w w':=by exact⟨rfl,rfl,rfl⟩):Go1 ι h w ι h nx w':=
 ⟨Le.refl _,hr.push hw,by rw[hw,Array.size_push];omega,fun B hB _=>by rw[hw,Array.getElem?_push_lt hB,Array.getElem?_eq_getElem hB],fun B h=>.inl h,he,fun B hB _=>.same (by rw[hw,Array.getElem?_push_lt hB,Array.getElem?_eq_getElem hB])⟩
theorem first_new{w w':World}{us:List Value}{t:TypeId}{e m:Nat}(hw:w'.heap=w.heap.push (.cells us.toArray t))(hm:us.length=m*e)(n c:Nat):(Builtin.firstCells e m (.slice (some ⟨w.heap.size,0,none⟩) n c)).run P w'=.ok us.toArray w':=by
 simp only[Builtin.firstCells];have:=run_loadCells (P:=P) (w:=w') (⟨w.heap.size,0,none⟩:Addr) (m*e) (fun j=>us[j]?.getD undef) fun j hj=>by
  rw[Addr_add,Nat.zero_add];have hlt:j<us.length:=by omega
  simp[World.cell?,hw,hlt]
 rw[this];congr 1
 apply Array.toList_inj.1;apply List.ext_getElem?;intro i;simp only[List.getElem?_map];by_cases hi:i<m*e
 ·simp[List.getElem?_range hi,show i<us.length by omega]
 ·rw[List.getElem?_eq_none (by rw[List.length_range];omega),List.getElem?_eq_none (by show us.length≤i;omega)];rfl
theorem put_size(a:Act)(d:Option Tmp)(v:Value):(a.put d v).tmps.size=a.tmps.size:=by
 cases d with
 |none=>rfl
 |some t=>simp[Act.put]
theorem eval_put_ne{a:Act}{d:Option Tmp}{v:Value}{x:Operand}(h:∀t,d=some t→x≠.tmp t):(a.put d v).eval x=a.eval x:=by
 cases x with
 |tmp t=>
  cases d with
  |none=>rfl
  |some u=>
   have hu:u≠t:=fun q=>h u rfl (by rw[q]);simp[Act.eval,Act.put,Array.getD_eq_getD_getElem?,hu]
 |_=>cases d<;>rfl
theorem eval_put_same{a:Act}{t:Tmp}{v:Value}(h:t<a.tmps.size):(a.put (some t) v).eval (.tmp t)=v:=by
 simp[Act.eval,Act.put,Array.getD_eq_getD_getElem?,h]
theorem pair_ok(hF:WF F){o1 o2:Oper}{s:Sx}(T:TyOk P s.ti){t el:TypeId}{len:Nat}{ps:Array (Nat×Operand)}(h1:o1.op=.buildSlice t len ps)(hgt:gT t=true)(hu:und s.ti t=.slice el){args:Array Operand}{tsA:Array TypeId}{x:Operand}{t1:Tmp}(hd1:o1.dst=some t1)(h2:o2.op=.call {callee:=.builtin .append,args:=args,argTypes:=tsA})(ha:args=#[x,.tmp t1])(hx1:x≠.tmp t1)
 (hg2:∀u∈tsA.toList,gT u=true) {ta:TypeId} {ts:List TypeId} (hts:tsA.toList=ta::ts) (hn:noInt s.ti ts=true) (he:elT s.ti ta=some el) {zl:AV} (hbig:len*(tI s.ti el).size≤16777216) (hz:zeroA s.ti el=some zl) {qs:List ((Nat×Nat)×OW)} (hq:prts s t ps.toList=some qs) {K:WR} {e:E} {tm:TM} {H:HS} {θ:Te} {R:Res} (hO:OV s θ e tm) (hR:R≠.fail)
 (h:(apsF el (repA zl len .nil) (tI s.ti el).size len qs (opd s x) K) X e tm H=R):∃u H',K.f X (.c u e) tm H'=R∧PStep F P θ H o1 o2 u H':=by
 obtain⟨hh,nx⟩:=H;have hel:=T.sl t el hgt hu;have hpl:plc s.ti t=fun j=>some (j*(tI s.ti el).size,(tI s.ti el).size):=funext fun j=>by simp only[plc,hu];rfl
 have hps:=prts_ok hq;rw[hpl]at hps;obtain⟨m,k1,k2,k3⟩:=bldN_ok hps (C:=fun l=>apG (fun v h nx=>K.f X (.c v e) tm ⟨h,nx⟩) el (tI s.ti el).size ((opd s x).f e tm) hh nx l len) h hR;obtain⟨z,hz1,hz2,hz3⟩:=T.zero el hel;have hpos:=T.pos el hel;have hzl:=(zeroA_ok (ι:=fun _=>none) hz hz1 hz3).1;have hlen:lenL' m=some (len*(tI s.ti el).size):=by
  refine bldS_len k2 ?_;have:=(repA_len hzl (by omega) len).1;rw[hz2]at this;exact this
 obtain⟨u,h',nx',k4,k5⟩:=apG_ok (P:=P) hlen k1 hR;obtain⟨za,Ta⟩:=ap_types T hts hg2 hn he;refine⟨u,_,k4,fun ι a w hr hx1' hx2 hsz next Q hnext=>?_⟩;have hm:∀p∈ps.toList,p.2∈o1.op.operands.toList:=fun p hp=>by
  rw[h1];simp only[Op.operands,List.toList_toArray];exact List.mem_map.2 ⟨p,hp,rfl⟩
 have hrv:∀x∈o1.op.operands.toList,RV ι ((opd s x).f e tm) (a.eval x):=fun x hxm=>hO.rv (hx1' x hxm);have hdf1:∀c,o1.op≠.defer c:=fun c hc=>by rw[h1]at hc;cases hc
 have hdf2:∀c,o2.op≠.defer c:=fun c hc=>by rw[h2]at hc;cases hc
 obtain⟨us,r1,r2⟩:=run_bsl (w:=w) (ρ:=only o1.op.operands.toList fun x=>(opd s x).f e tm) h1 (by rw[T.und t hgt,hu]) (T.info el hel) hz1 hz2 hpos hbig hzl (zeroA_ok (ι:=ι) hz hz1 hz3).2 (only_rv hrv) (fun p hp=>by rw[only_eq (hm p hp)];exact k3 p hp) (by rw[bldS_mem fun p hp=>only_eq (hm p hp)];exact k2);have hus:us.length=len*(tI s.ti el).size:=(RL.len hlen r2).1;refine⟨fun f _=>hF.fn f,?_⟩;rw[Oper.semAt_eq _ _ _ hdf1,r1,Oper.uponIn_value];generalize hw1:({w with heap:=w.heap.push (.cells us.toArray el)}:World)=w1;have hw1':w1.heap=w.heap.push (.cells us.toArray el):=by rw[←hw1]
 have hg1:=Go1.push hr.rel hw1' (by rw[←hw1];exact⟨rfl,rfl,rfl⟩);have hr1:HR ι ⟨hh,nx⟩ w1:=⟨hg1.rel,hr.ok,hr.nx,hr.gl,hr.sn.go hg1⟩;have ex:(a.put o1.dst (.slice (some ⟨w.heap.size,0,none⟩) len len)).eval x=a.eval x:=eval_put_ne fun t' ht'=>by rw[hd1]at ht';cases ht';exact hx1
 have ey:(a.put o1.dst (.slice (some ⟨w.heap.size,0,none⟩) len len)).eval (.tmp t1)=.slice (some ⟨w.heap.size,0,none⟩) len len:=by rw[hd1];exact eval_put_same (hsz t1 hd1)
 have hrx:RV ι ((opd s x).f e tm) ((a.put o1.dst (.slice (some ⟨w.heap.size,0,none⟩) len len)).eval x):=by
  rw[ex];exact hO.rv (hx2 x (by rw[h2,ha];simp[Op.operands,Call.operands]) fun t' ht'=>by rw[hd1]at ht';cases ht';exact hx1)
 have hst:=k5 el _ za ι w1 (a.put o1.dst (.slice (some ⟨w.heap.size,0,none⟩) len len)).eval o2 args tsA x (.tmp t1) h2 ha Ta rfl hpos (T.byt el hel) (fun t ht=>(Option.some.inj ht).symm) hr1 hrx
  (by rw[ey];exact⟨fun w=>rfl,us.toArray,fun w' hw'=>first_new (by rw[hw',hw1']) hus len len,r2⟩)
 exact(hst.opIn hF.fn hdf2) next Q fun v w' ι' g1 g2 g3=>hnext _ v w' ι' g1 g2 (hg1.trans g3)
end Go.Proofs.YtglihimiidiacaaGreatDoor.Ev8
namespace Go.Proofs.YtglihimiidiacaaGreatDoor.Ev8
open Go
variable {P:Program} {ι ι':Io} {F:Fence} {X:Cx} {fin:Sx→WR}
theorem onT_ok{x:Operand}{d:Option Tmp}(h:onT x d=true):∃t,x=.tmp t∧d=some t:=by
 cases x with
 |tmp t=>cases d with
  |some u=>exact⟨t,rfl,by rw[Nat.eq_of_beq_eq_true (h:Nat.beq t u=true)]⟩
  |none=>cases h
 |_=>cases d<;>cases h
theorem onT_no{x:Operand}{d:Option Tmp}(h:onT x d=false){t:Tmp}(hd:d=some t):x≠.tmp t:=fun hx=>by
 subst hx;subst hd;change Nat.beq t t=false at h;rw[Nat.beq_refl]at h;cases h
theorem ung_ok{o:Oper}(h:ung o=true):o.guard=none:=by
 unfold ung at h;cases hg:o.guard with
 |none=>rfl
 |some g=>rw[hg]at h;cases h
theorem aev_ne{θ:Te}{d:Option Tmp}{u:AV}{x:Operand}(h:∀t,d=some t→x≠.tmp t):aev (thN θ d u) x=aev θ x:=by
 cases x with
 |tmp t=>exact thN_ne fun y hy=>fun q=>h y hy (by rw[q])
 |_=>rfl
theorem aev_same{θ:Te}{t:Tmp}{u:AV}:aev (thN θ (some t) u) (.tmp t)=u:=by simp[aev,thN,upd_same]
theorem nil_step{o:Oper}{θ:Te}{x:Operand}{b q:Nat}(ho:o.op=.nilCheck x)(hx:aev θ x=.ptr b q){H:HS}:KStep F P θ H o (.ptr b q) H:=by
 unfold KStep;rw[show kOp cvT o.op=0 from by rw[ho];rfl];refine⟨rfl,fun ι a w hO=>rd_nil ho ?_⟩;rw[←hx];exact hO x (by simp[ho,Op.operands])
theorem fld_step{s:Sx}(T:TyOk P s.ti){o:Oper}{θ:Te}{t:TypeId}{x:Operand}{f b q:Nat}{p:Nat×TypeId}(ho:o.op=.fieldAddr t x f)(hg:gT t=true)(hf:fsOf s.ti t f=some p)(hx:aev θ x=.ptr b q){H:HS}:KStep F P θ H o (.ptr b (q+p.1)) H:=by
 unfold KStep;rw[show kOp cvT o.op=0 from by rw[ho];rfl];obtain⟨fs,fl,e1,e2,rfl,e4⟩:=fld_field T hg hf;refine⟨rfl,fun ι a w hO=>rd_fld ho ?_ e1 e2 (T.sizeOf e4) (Nat.ne_of_gt (T.pos _ e4))⟩;rw[←hx];exact hO x (by simp[ho,Op.operands])
theorem fuse_ok{s:Sx}(T:TyOk P s.ti)(hF:WF F){x:Operand}{d0:Option Tmp}{o1 o2:Oper}{k W:WR}(h:fuse s x d0 o1 o2 k=some W)(hk1:opOk o1=true)(hk2:opOk o2=true){e:E}{tm:TM}{H:HS}{θ:Te}{R:Res}(hO:OV s θ e tm)(hR:R≠.fail)(hW:W.f X e tm H=R):
 o1.guard=none∧o2.guard=none∧isFr s o1.dst=true∧∃t0 b q u1 u H',d0=some t0∧aev θ x=.ptr b q∧k.f X (.c u e) tm H'=R∧
  ∀θ1:Te,θ1 t0=.ptr b q→(∀t,t≠t0→θ1 t=θ t)→KStep F P θ1 H o1 u1 H∧KStep F P (thN θ1 o1.dst u1) H o2 u H':=by
 have hg1:∀t∈tyO o1.op,gT t=true:=List.all_eq_true.1 (and_ok hk1).2;have hg2:∀t∈tyO o2.op,gT t=true:=List.all_eq_true.1 (and_ok hk2).2;unfold fuse at h;split at h
 ·rename_i t y f u z e1 e2
  cases hc:and (and (ung o1) (ung o2)) (and (and (onT y d0) (onT z o1.dst)) (isFr s o1.dst)) with
  |false=>rw[hc]at h;cases h
  |true=>
   rw[hc]at h;obtain⟨c1,c2⟩:=and_ok hc;obtain⟨c3,c4⟩:=and_ok c1;obtain⟨c5,c6⟩:=and_ok c2;obtain⟨c7,c8⟩:=and_ok c5;obtain⟨t0,rfl,hd0⟩:=onT_ok c7;obtain⟨t1,rfl,hd1⟩:=onT_ok c8;have ho1:=sp_fld e1;have ho2:=sp_ld e2;have hgt:=hg1 t (by rw[ho1];simp[tyO]);have hgu:=hg2 u (by rw[ho2];simp[tyO]);simp only[cond_true]at h;cases hf:fsOf s.ti t f with
   |none=>rw[hf]at h;cases h
   |some q0=>
    rw[hf]at h;simp only[Option.some.injEq]at h;refine⟨ung_ok c3,ung_ok c4,c6,t0,?_⟩;cases hag:aggT s.ti u with
    |true=>
     rw[hag]at h;subst h;obtain⟨b,q,g,n,h1,h2,h3,h4⟩:=lAG_ok (C:=fun v=>k.f X (.c v e) tm H) hW hR;refine⟨b,q,.ptr b (q+q0.1),_,H,hd0,hO.is h1 (by simp),h4,fun θ1 a1 a2=>⟨fld_step T ho1 hgt hf a1,?_⟩⟩;unfold KStep;rw[show kOp cvT o2.op=1 from by rw[ho2];rfl];exact⟨rfl,u,.tmp t1,b,q+q0.1,g,n,ho2,by rw[hd1];exact aev_same,fun _=>h2,.inr ⟨_,fun w=>by rw[T.isAgg hgu,hag],T.sizeOf hgu,h3,rfl⟩⟩
    |false=>
     rw[hag]at h;subst h;obtain⟨b,q,g,n,h1,h2,h3,h4⟩:=ldG_ok (C:=fun v=>k.f X (.c v e) tm H) hW hR;refine⟨b,q,.ptr b (q+q0.1),_,H,hd0,hO.is h1 (by simp),h4,fun θ1 a1 a2=>⟨fld_step T ho1 hgt hf a1,?_⟩⟩;unfold KStep;rw[show kOp cvT o2.op=1 from by rw[ho2];rfl];exact⟨rfl,u,.tmp t1,b,q+q0.1,g,n,ho2,by rw[hd1];exact aev_same,fun _=>h2,.inl ⟨fun w=>by rw[T.isAgg hgu,hag],h3,rfl⟩⟩
 ·rename_i t y f u z v e1 e2
  cases hc:and (and (ung o1) (ung o2)) (and (and (onT y d0) (onT z o1.dst)) (and (isFr s o1.dst) (and (not (onT v o1.dst)) (not (onT v d0))))) with
  |false=>rw[hc]at h;cases h
  |true=>
   rw[hc]at h;obtain⟨c1,c2⟩:=and_ok hc;obtain⟨c3,c4⟩:=and_ok c1;obtain⟨c5,c6⟩:=and_ok c2;obtain⟨c7,c8⟩:=and_ok c5;obtain⟨c9,c10⟩:=and_ok c6;obtain⟨c11,c12⟩:=and_ok c10;obtain⟨t0,rfl,hd0⟩:=onT_ok c7;obtain⟨t1,rfl,hd1⟩:=onT_ok c8;have ho1:=sp_fld e1;have ho2:=sp_st e2;have hgt:=hg1 t (by rw[ho1];simp[tyO]);have hgu:=hg2 u (by rw[ho2];simp[tyO]);have hv1:v≠.tmp t1:=onT_no (by simpa using c11) hd1;have hv0:v≠.tmp t0:=onT_no (by simpa using c12) hd0;have hdf:∀c,o2.op≠.defer c:=fun c hc=>by rw[ho2]at hc;cases hc
   have hvθ:∀(θ1:Te) (u1:AV),(∀t,t≠t0→θ1 t=θ t)→aev (thN θ1 o1.dst u1) v=aev θ v:=fun θ1 u1 a2=>by
    rw[aev_ne (fun t' ht'=>by rw[hd1]at ht';cases ht';exact hv1)];cases v with
    |tmp t'=>exact a2 t' fun q=>hv0 (by rw[q])
    |_=>rfl
   simp only[cond_true]at h;cases hf:fsOf s.ti t f with
   |none=>rw[hf]at h;cases h
   |some q0=>
    rw[hf]at h;simp only[Option.some.injEq]at h;refine⟨ung_ok c3,ung_ok c4,c9,t0,?_⟩;obtain⟨hh,nx⟩:=H;cases hag:aggT s.ti u with
    |true=>
     rw[hag]at h;subst h;obtain⟨z,l,b,q,B,h1,h2,h3,h4,h5,h6⟩:=sAG_ok (C:=fun h=>k.f X (.c (.v undef) e) tm ⟨h,nx⟩) hW hR;refine⟨b,q,.ptr b (q+q0.1),_,_,hd0,hO.is h2 (by simp),h6,fun θ1 a1 a2=>⟨fld_step T ho1 hgt hf a1,?_⟩⟩;unfold KStep;rw[show kOp cvT o2.op=3 from by rw[ho2];rfl];exact(bs_stA ho2 (T.sizeOf hgu) (by rw[hd1];exact aev_same) (by rw[hvθ θ1 _ a2];exact hO.is h1 (by simp)) h3 h4 h5).a hF.fn hdf
    |false=>
     rw[hag]at h;subst h;change chk1 ((opd s v).f e tm) (fun _=>spG q0.1 (fun h=>k.f X (.c (.v undef) e) tm ⟨h,nx⟩) ((opd s v).f e tm) hh ((opd s x).f e tm))=R at hW;obtain⟨h3,h4⟩:=chk1_ok hW hR;obtain⟨b,q,B,h5,h6,h7⟩:=spG_ok h3 hR;refine⟨b,q,.ptr b (q+q0.1),_,_,hd0,hO.is h5 (by simp),h7,fun θ1 a1 a2=>⟨fld_step T ho1 hgt hf a1,?_⟩⟩;unfold KStep;rw[show kOp cvT o2.op=3 from by rw[ho2];rfl];exact(bs_st1 ho2 (fun w=>by rw[T.sizeOf hgu,T.one u hgu hag]) (by rw[hd1];exact aev_same) (by rw[hvθ θ1 _ a2];exact hO.is rfl (fun q=>by rw[q]at h4;cases h4)) h4 h6).a hF.fn hdf
 ·cases h
end Go.Proofs.YtglihimiidiacaaGreatDoor.Ev8
namespace Go.Proofs.YtglihimiidiacaaGreatDoor.Ev8
open Go
variable {P:Program} {ι ι':Io} {F:Fence} {X:Cx} {fin:Sx→WR}
theorem K_rest{ih:Rg}(hih:RgOk F P X fin ih){o:Oper}{rest:List Oper}{s:Sx}{e:E}{tm:TM}{H:HS}{θ:Te}{R:Res}{u:AV}(T:TyOk P s.ti)(hvs:s.vs.length≤72)(hok:∀o'∈rest,opOk o'=true)(hd:DsOk s (o::rest) e tm θ)(hR:R≠.fail)(h:(topW s.vs o.dst (ih rest (s.one o.dst))).f X (.c u e) tm H=R):RgR F P X fin s (rest.map .op) (thN θ o.dst u) H R:=by
 rw[topW_eq]at h;exact(hih rest (s.one o.dst) _ _ H _ R (by rw[one_ti];exact T) (by rw[one_vs];exact hvs) hok (hd.one hvs u) hR h).as (one_vs _ _) (one_ti _ _) (one_all _ _) (one_fa _ _)
theorem orW_ok{x:Option WR}{y:WR}{e:E}{tm:TM}{H:HS}{R:Res}(h:(orW x y).f X e tm H=R):(∃W,x=some W∧W.f X e tm H=R)∨y.f X e tm H=R:=by
 cases x with
 |none=>exact .inr h
 |some W=>exact .inl ⟨W,rfl,h⟩
theorem gst{o:Oper}{all:List Oper}{θ:Te}{H H':HS}{u:AV}(hg:o.guard=none)(h:KStep F P θ H o u H'):GStep F P all θ H o u H':=by unfold GStep;rw[hg];exact h
theorem pl_ok{ih:Rg}(hF:WF F)(hC:CallOk P X.ih)(hY:RndOk P X.ih)(hih:RgOk F P X fin ih){o:Oper}{rest:List Oper}{s:Sx}{e:E}{tm:TM}{H:HS}{θ:Te}{R:Res}(hg:o.guard=none)(T:TyOk P s.ti)(hvs:s.vs.length≤72)(hok:∀o'∈o::rest,opOk o'=true)(hd:DsOk s (o::rest) e tm θ)(hR:R≠.fail)(h:(plC P ih o rest s).f X e tm H=R):RgR F P X fin s ((o::rest).map .op) θ H R:=by
 have hgo:(goC P ih o rest s).f X e tm H=R→RgR F P X fin s ((o::rest).map .op) θ H R:=fun h=>go_ok hF hC hY hih hg T hvs hok hd hR h;have hokr:∀o'∈rest,opOk o'=true:=fun o' ho=>hok o' (List.mem_cons_of_mem _ ho);unfold plC at h;split at h
 ·rename_i x hsp
  have ho:=sp_mov hsp;cases hl:isLoc s.vs o.dst with
  |false=>rw[hl]at h;exact hgo h
  |true=>
   rw[hl]at h;simp only[cond_true]at h;cases hal:alias s rest x with
   |none=>rw[hal]at h;exact hgo h
   |some r=>
    rw[hal]at h;simp only at h;obtain⟨t,ht,hp⟩:=loc_pos hl;have hr:=alias_ok hd hal (fun t' ht'=>by rw[ht]at ht';cases ht';exact hp);have hd':=hd.add ht (u:=(opd s x).f e tm) (r:=r) (tm':=tm) (fun _ _ _ _=>rfl) (fun n hn=>by rw[hp]at hn;cases hn) hr;have:=(hih rest (s.add o.dst r) e tm H _ R (by rw[add_ti];exact T) (by rw[add_vs];exact hvs) hokr hd' hR h).as (add_vs _ _ _) (add_ti _ _ _) (add_all _ _ _) (add_fa _ _ _);exact RgR.op (gst hg (mov_step (.inl ho) hd.ov)) this
 ·rename_i x hsp
  have ho:=sp_asg hsp;cases hdst:o.dst with
  |none=>rw[hdst]at h;exact hgo h
  |some t=>
   rw[hdst]at h;simp only at h;cases hp:pos t s.vs 0 with
   |none=>rw[hp]at h;exact hgo h
   |some n=>
    rw[hp]at h;simp only at h;cases hw:wrt t rest with
    |true=>rw[hw]at h;exact hgo h
    |false=>
     rw[hw]at h;simp only[cond_false]at h;change (tw n).p ((opd s x).f e tm) tm (fun tm=>(ih rest (s.add (some t) (.o (tmW s.vs t)))).f X e tm H)=R at h;rw[tw_put]at h;have hlt:=(pos_ge hp).2;have hd':=hd.add hdst (u:=(opd s x).f e tm) (r:=.o (tmW s.vs t)) (tm':=tput n ((opd s x).f e tm) tm) (fun y m hy hne=>by
      have h2:=(pos_ge hy).2;exact tget_ne _ tm (by omega) (by omega) fun q=>hne (pos_inj hp (q▸hy))) (fun m hm=>by rw[hp]at hm;cases hm;exact tget_tput n _ tm) (.inr ⟨t,n,hp,rfl,hw,tget_tput n _ tm⟩)
     rw[←hdst]at h;have:=(hih rest (s.add o.dst (.o (tmW s.vs t))) e _ H _ R (by rw[add_ti];exact T) (by rw[add_vs];exact hvs) hokr hd' hR h).as (add_vs _ _ _) (add_ti _ _ _) (add_all _ _ _) (add_fa _ _ _);exact RgR.op (gst hg (mov_step (.inr ho) hd.ov)) this
 ·rename_i x hsp
  have ho:=sp_nil hsp;split at h
  ·rename_i o1 o2 rest2
   cases hfr:isFr s o.dst with
   |false=>rw[hfr]at h;exact hgo h
   |true=>
    rw[hfr]at h;simp only[cond_true]at h;rcases orW_ok h with⟨W,h1,h2⟩|h1
    ·obtain⟨g1,g2,hfr1,t0,b,q,u1,u,H',k1,k2,k3,k4⟩:=fuse_ok T hF h1 (hok o1 (by simp)) (hok o2 (by simp)) hd.ov hR h2;obtain⟨k5,k6⟩:=k4 (thN θ o.dst (.ptr b q)) (by rw[k1];simp[thN,upd_same]) (fun t ht=>by rw[k1];simp only[thN];exact upd_ne _ ht _);have hd1:=hd.drop hfr (.ptr b q);have hd2:=hd1.drop hfr1 u1;have h7:=K_rest hih T hvs (fun o' ho'=>hok o' (by simp[ho'])) hd2 hR k3;exact RgR.op (gst hg (nil_step ho k2)) (RgR.op (gst g1 k5) (RgR.op (gst g2 k6) h7))
    ·exact hgo h1
  ·exact hgo h
 ·rename_i t x f hsp
  have ho:=sp_fld hsp;split at h
  ·rename_i o1 rest2
   rcases orW_ok h with⟨W,h1,h2⟩|h1
   ·obtain⟨g1,g2,hfr1,t0,b,q,u1,u,H',k1,k2,k3,k4⟩:=fuse_ok T hF h1 (hok o (by simp)) (hok o1 (by simp)) hd.ov hR h2;have hx:x=.tmp t0:=by
     cases x with
     |tmp t'=>simp only[isT,Option.some.injEq]at k1;rw[k1]
     |_=>cases k1
    subst hx;obtain⟨k5,k6⟩:=k4 θ k2 (fun _ _=>rfl);have hd2:=hd.drop hfr1 u1;have h7:=K_rest hih T hvs (fun o' ho'=>hok o' (by simp[ho'])) hd2 hR k3;exact RgR.op (gst hg k5) (RgR.op (gst g2 k6) h7)
   ·exact hgo h1
  ·exact hgo h
 ·rename_i t len ps hsp
  obtain⟨qs,ho,hqs⟩:=sp_bsl hsp;split at h
  ·rename_i o1 rest2
   rcases orW_ok h with⟨W,h1,h2⟩|h1
   ·have hk0:=hok o (by simp);have hk1:=hok o1 (by simp);unfold fuseA at h1;rw[hsp]at h1;split at h1
    ·rename_i t' len' ps' x y ts e1 e2
     cases e1;obtain⟨args,tsA,ho1,ha,hts⟩:=sp_app e2;cases hc:and (and (ung o1) s.fa) (and (onT y o.dst) (and (isFr s o.dst) (not (onT x o.dst)))) with
     |false=>rw[hc]at h1;cases h1
     |true=>
      rw[hc]at h1;obtain⟨c1,c2⟩:=and_ok hc;obtain⟨c3,c4⟩:=and_ok c1;obtain⟨c5,c6⟩:=and_ok c2;obtain⟨c7,c8⟩:=and_ok c6;obtain⟨t1,rfl,hd1⟩:=onT_ok c5;have hx1:x≠.tmp t1:=onT_no (by simpa using c8) hd1;simp only[cond_true]at h1;cases hel:elT s.ti t with
      |none=>rw[hel]at h1;cases h1
      |some el=>
       rw[hel]at h1;simp only at h1;cases hap:and (apT s.ti el ts) (Nat.ble (Nat.mul len (tI s.ti el).size) 4096) with
       |false=>rw[hap]at h1;cases h1
       |true=>
        rw[hap]at h1;obtain⟨a1,a2⟩:=and_ok hap;simp only[Bool.not_true,cond_false]at h1;cases hz:zeroA s.ti el with
        |none=>rw[hz]at h1;cases h1
        |some zl=>
         cases hp:prts s t ps with
         |none=>rw[hz,hp]at h1;cases h1
         |some qs'=>
          rw[hz,hp]at h1;simp only[Option.some.injEq]at h1;subst h1;have hg0:gT t=true:=List.all_eq_true.1 (and_ok hk0).2 t (by rw[ho];simp[tyO]);have hg1:∀u∈tsA.toList,gT u=true:=fun u hu=>List.all_eq_true.1 (and_ok hk1).2 u (by rw[ho1];exact hu);unfold apT at a1;cases hts':ts with
          |nil=>rw[hts']at a1;cases a1
          |cons ta tr=>
           rw[hts']at a1;obtain⟨b1,b2⟩:=and_ok a1;have hea:elT s.ti ta=some el:=by
            cases hq:elT s.ti ta with
            |none=>rw[hq]at b2;cases b2
            |some u'=>rw[hq]at b2;rw[Nat.eq_of_beq_eq_true (b2:Nat.beq u' el=true)]
           have hble:len*(tI s.ti el).size≤4096:=Nat.le_of_ble_eq_true a2;obtain⟨u,H',k1,k2⟩:=pair_ok hF T ho hg0 (elT_ok hel) hd1 ho1 (by rw[←Array.toArray_toList (xs:=args),ha]) hx1 hg1 (by rw[hts,hts']) b1 hea (by omega) hz (by rw[hqs];exact hp) hd.ov hR h2;have hd2:=hd.drop c7 .un;have h7:=K_rest hih T hvs (fun o' ho'=>hok o' (by simp[ho'])) hd2 hR k1;obtain⟨θ',H'',s2,e',tm',j1,j2⟩:=h7;rw[c4]at j1;exact⟨θ',H'',s2,e',tm',by rw[c4];exact .two hg (ung_ok c3) k2 j1,j2⟩
    ·cases h1
   ·exact hgo h1
  ·exact hgo h
 ·exact hgo h
theorem rgC_ok(hF:WF F)(hC:CallOk P X.ih)(hY:RndOk P X.ih):∀m,RgOk F P X fin (rgC P fin m)
 |0=>fun l s e tm H θ R _ _ _ _ hR h=>absurd h.symm hR
 |m+1=>fun l s e tm H θ R T hvs hok hd hR h=>by
  cases l with
  |nil=>exact⟨θ,H,s,e,tm,.nil,h,hd,rfl,rfl⟩
  |cons o rest=>
   change (stepC P (rgC P fin m) o rest s).f X e tm H=R at h;unfold stepC at h;cases hg:o.guard with
   |none=>rw[hg]at h;exact pl_ok hF hC hY (rgC_ok hF hC hY m) hg T hvs hok hd hR h
   |some g=>rw[hg]at h;exact gd_ok hF hC hY (rgC_ok hF hC hY m) hg T hvs hok hd hR h
end Go.Proofs.YtglihimiidiacaaGreatDoor.Ev8
namespace Go.Proofs.YtglihimiidiacaaGreatDoor.Ev8
open Go
variable {P:Program} {ι ι':Io} {F:Fence} {X:Cx} {fin:Sx→WR}
def Pl.o:Pl→Oper|.op o=>o|.re o=>o
theorem vCode_inv(x:Value):(vCode x=1→x=.slice none 0 0)∧(vCode x=2→x=.nilIface)∧(vCode x=3→x=.pointer none)∧(vCode x=4→x=.map none)∧vCode x≤4:=by
 unfold vCode;split<;>simp
theorem vCode_eq{x y:Value}(h:0<vCode x)(he:vCode x=vCode y):x=y:=by
 obtain⟨a1,a2,a3,a4,a5⟩:=vCode_inv x;obtain⟨b1,b2,b3,b4,b5⟩:=vCode_inv y;have:vCode x=1∨vCode x=2∨vCode x=3∨vCode x=4:=by omega
 rcases this with q|q|q|q
 ·rw[a1 q,b1 (by omega)]
 ·rw[a2 q,b2 (by omega)]
 ·rw[a3 q,b3 (by omega)]
 ·rw[a4 q,b4 (by omega)]
theorem eqI_eq{n m:Int}(h:eqI n m=true):n=m:=by
 cases n<;>cases m
 ·exact congrArg _ (Nat.eq_of_beq_eq_true h)
 ·cases h
 ·cases h
 ·exact congrArg _ (Nat.eq_of_beq_eq_true h)
theorem eqO_eq{a b:Option Nat}(h:eqO a b=true):a=b:=by
 cases a<;>cases b
 ·rfl
 ·cases h
 ·cases h
 ·exact congrArg _ (Nat.eq_of_beq_eq_true h)
theorem eqA_ok:∀{a b:AV} {C:Unit→Res} {R:Res},eqA a b C=R→R≠.fail→a=b∧C ()=R:=by
 intro a;induction a with
 |un=>intro b C R h hR;exact absurd h.symm hR
 |nil=>
  intro b C R h hR;cases b with
  |nil=>exact⟨rfl,h⟩
  |_=>exact absurd h.symm hR
 |cons x l ihx ihl=>
  intro b C R h hR;obtain⟨y,m,rfl,h1⟩:=asK_ok (C:=fun y m=>eqA x y fun _=>eqA l m C) h hR;obtain⟨rfl,h2⟩:=ihx h1 hR;obtain⟨rfl,h3⟩:=ihl h2 hR;exact⟨rfl,h3⟩
 |v x=>
  intro b C R h hR;cases b with
  |v y=>
   obtain⟨c,h1⟩:=tst hR h;obtain⟨c1,c2⟩:=and_ok c;exact⟨by rw[vCode_eq (blt_lt c1) (Nat.eq_of_beq_eq_true c2)],h1⟩
  |_=>exact absurd h.symm hR
 |r g j=>
  intro x C R h hR;cases x with
  |r g2 j2=>
   obtain⟨c,h1⟩:=tst hR h;obtain⟨c1,c2⟩:=and_ok c;exact⟨by rw[Nat.eq_of_beq_eq_true c1,Nat.eq_of_beq_eq_true c2],h1⟩
  |_=>exact absurd h.symm hR
 |k g t l ih=>
  intro b C R h hR;cases b with
  |k g2 t2 l2=>
   obtain⟨c,h1⟩:=tst hR h;obtain⟨c1,c2⟩:=and_ok c;obtain⟨rfl,h2⟩:=ih h1 hR;exact⟨by rw[Nat.eq_of_beq_eq_true c1,Nat.eq_of_beq_eq_true c2],h2⟩
  |_=>exact absurd h.symm hR
 |s l n=>
  intro b C R h hR;cases b with
  |s l2 n2=>
   obtain⟨c,h1⟩:=tst hR h;obtain⟨c1,c2⟩:=and_ok c;exact⟨by rw[Nat.eq_of_beq_eq_true c1,Nat.eq_of_beq_eq_true c2],h1⟩
  |_=>exact absurd h.symm hR
 |sl b e o k n c=>
  intro x C R h hR;cases x with
  |sl b2 e2 o2 k2 n2 c2=>
   obtain⟨q,h1⟩:=tst hR h;obtain⟨q1,q2⟩:=and_ok q;obtain⟨q3,q4⟩:=and_ok q1;obtain⟨q5,q6⟩:=and_ok q3;obtain⟨q7,q8⟩:=and_ok q4;obtain⟨q9,q10⟩:=and_ok q2;exact⟨by rw[Nat.eq_of_beq_eq_true q5,Nat.eq_of_beq_eq_true q6,Nat.eq_of_beq_eq_true q7,Nat.eq_of_beq_eq_true q8,Nat.eq_of_beq_eq_true q9,eqO_eq q10],h1⟩
  |_=>exact absurd h.symm hR
 |ptr b o=>
  intro x C R h hR;cases x with
  |ptr b2 o2=>
   obtain⟨c,h1⟩:=tst hR h;obtain⟨c1,c2⟩:=and_ok c;exact⟨by rw[Nat.eq_of_beq_eq_true c1,Nat.eq_of_beq_eq_true c2],h1⟩
  |_=>exact absurd h.symm hR
 |b p=>
  intro x C R h hR;cases x with
  |b q=>
   change Bool.rec (motive:=fun _=>Res) (C ()) .fail (Bool.xor p q)=R at h;cases p<;>cases q
   ·exact⟨rfl,h⟩
   ·exact absurd h.symm hR
   ·exact absurd h.symm hR
   ·exact⟨rfl,h⟩
  |_=>exact absurd h.symm hR
 |i k n=>
  intro x C R h hR;cases x with
  |i k2 n2=>
   obtain⟨c,h1⟩:=tst hR h;obtain⟨c1,c2⟩:=and_ok c;exact⟨by rw[kN_inj (Nat.eq_of_beq_eq_true c1),eqI_eq c2],h1⟩
  |_=>exact absurd h.symm hR
theorem reL_ok{s:Sx}(T:TyOk P s.ti){o:Oper}{t:TypeId}{x:Operand}{d:Tmp}{k:WR}(ho:o.op=.load t x)(hg:gT t=true){e:E}{tm:TM}{H:HS}{θ:Te}{R:Res}(hO:OV s θ e tm)(hR:R≠.fail)(h:(reL s t x d k).f X e tm H=R):k.f X e tm H=R∧KStep F P θ H o (θ d) H:=by
 unfold reL at h;have hk:kOp cvT o.op=1:=by rw[ho];rfl
 cases hag:aggT s.ti t with
 |true=>
  rw[hag]at h;obtain⟨b,q,f,n,h1,h2,h3,h4⟩:=lAG_ok (C:=fun v=>eqA v ((opd s (.tmp d)).f e tm) fun _=>k.f X e tm H) h hR;obtain⟨h5,h6⟩:=eqA_ok h4 hR;refine⟨h6,?_⟩;rw[is_of hO h5.symm (by simp)];unfold KStep;rw[hk];exact⟨rfl,t,x,b,q,f,n,ho,hO.is h1 (by simp),fun _=>h2,.inr ⟨_,fun w=>by rw[T.isAgg hg,hag],T.sizeOf hg,h3,rfl⟩⟩
 |false=>
  rw[hag]at h;obtain⟨b,q,f,n,h1,h2,h3,h4⟩:=ldG_ok (C:=fun v=>eqA v ((opd s (.tmp d)).f e tm) fun _=>k.f X e tm H) h hR;obtain⟨h5,h6⟩:=eqA_ok h4 hR;refine⟨h6,?_⟩;by_cases hun:f (q+0)=.un
  ·rw[hun]at h4;exact absurd h4.symm hR
  rw[is_of hO h5.symm hun];unfold KStep;rw[hk];exact⟨rfl,t,x,b,q,f,n,ho,hO.is h1 (by simp),fun _=>h2,.inl ⟨fun w=>by rw[T.isAgg hg,hag],h3,rfl⟩⟩
theorem rgD_ok(hF:WF F)(hC:CallOk P X.ih)(hY:RndOk P X.ih):∀(l:List Pl) (s:Sx) (e:E) (tm:TM) (H:HS) (θ:Te) (R:Res),TyOk P s.ti→s.vs.length≤72→(∀p∈l,opOk p.o=true)→(∀rest,DsOk s rest e tm θ)→R≠.fail→(rgD P fin l s).f X e tm H=R→RgR F P X fin s l θ H R
 |[],s,e,tm,H,θ,R,_,_,_,hd,hR,h=>⟨θ,H,s,e,tm,.nil,h,hd [],rfl,rfl⟩
 |.op o::l,s,e,tm,H,θ,R,T,hvs,hok,hd,hR,h=>by
  have ho:=hok (.op o) (List.mem_cons_self ..);have hl:∀p∈l,opOk p.o=true:=fun p hp=>hok p (List.mem_cons_of_mem _ hp);have next:∀u H1,(topW s.vs o.dst (rgD P fin l (s.one o.dst))).f X (.c u e) tm H1=R→RgR F P X fin s l (thN θ o.dst u) H1 R:=fun u H1 h1=>by
   rw[topW_eq]at h1;exact(rgD_ok hF hC hY l (s.one o.dst) _ _ H1 _ R (by rw[one_ti];exact T) (by rw[one_vs];exact hvs) hl (fun rest=>(hd (o::rest)).one hvs u) hR h1).as (one_vs _ _) (one_ti _ _) (one_all _ _) (one_fa _ _)
  have core:(goC P (fun _ s=>rgD P fin l s) o [] s).f X e tm H=R→∃u H1,KStep F P θ H o u H1∧RgR F P X fin s l (thN θ o.dst u) H1 R:=fun h=>by
   obtain⟨u,H1,h1,h2⟩:=mkC_ok hF T ho (topW s.vs o.dst (rgD P fin l (s.one o.dst))) X e tm H θ R hC hY (hd []).ov hR h;exact⟨u,H1,h2,next u H1 h1⟩
  change (match o.guard with|some g=>gdC P (fun _ s=>rgD P fin l s) o [] s g.1 g.2|none=>goC P (fun _ s=>rgD P fin l s) o [] s:WR).f X e tm H=R at h;cases hg:o.guard with
  |none=>
   rw[hg]at h;obtain⟨u,H1,h1,h2⟩:=core h;exact RgR.op (gst hg h1) h2
  |some g=>
   rw[hg]at h;simp only at h;unfold gdC at h;cases hj:nth s.all g.1 with
   |none=>rw[hj]at h;exact absurd h.symm hR
   |some oj=>
    rw[hj]at h;simp only at h;cases ht:oj.dst with
    |none=>rw[ht]at h;exact absurd h.symm hR
    |some t=>
     rw[ht]at h;simp only at h;have hj':s.all[g.1]?=some oj:=by rw[←nth_eq];exact hj
     rcases gdG_ok h hR with⟨h1,h2⟩|⟨h1,h2⟩
     ·obtain⟨u,H1,h3,h4⟩:=core h2;refine RgR.op ?_ h4;unfold GStep;rw[hg];exact⟨oj,t,hj',ht,.inl ⟨is_of (hd []).ov h1 (by simp),h3⟩⟩
     ·refine RgR.op (u:=.v undef) (H1:=H) ?_ (next _ _ h2);unfold GStep;rw[hg];refine⟨oj,t,hj',ht,.inr ⟨?_,rfl,rfl⟩⟩;rcases h1 with h1|⟨v,h1,h5⟩
      ·exact .inl (is_of (hd []).ov h1 (by simp))
      ·exact .inr ⟨v,is_of (hd []).ov h1 (by simp),h5⟩
 |.re o::l,s,e,tm,H,θ,R,T,hvs,hok,hd,hR,h=>by
  have ho:=hok (.re o) (List.mem_cons_self ..);have hl:∀p∈l,opOk p.o=true:=fun p hp=>hok p (List.mem_cons_of_mem _ hp);have hgt:∀t∈tyO o.op,gT t=true:=List.all_eq_true.1 (and_ok ho).2;change (reC o s (rgD P fin l s)).f X e tm H=R at h;have fin':∀d,o.dst=some d→GRe F P s.all θ H o d→(rgD P fin l s).f X e tm H=R→RgR F P X fin s (.re o::l) θ H R:=fun d hdd hst h1=>by
   obtain⟨θ',H',s2,e',tm',k1,k2⟩:=rgD_ok hF hC hY l s e tm H θ R T hvs hl hd hR h1;exact⟨θ',H',s2,e',tm',.re hdd hst k1,k2⟩
  unfold reC at h;cases hg:o.guard with
  |none=>
   rw[hg]at h;simp only at h;split at h
   ·rename_i t x d e1 e2
    obtain⟨h1,h2⟩:=reL_ok (F:=F) T (sp_ld e1) (hgt t (by rw[sp_ld e1];simp[tyO])) (hd []).ov hR h;exact fin' d e2 (by unfold GRe;rw[hg];exact h2) h1
   ·exact absurd h.symm hR
  |some g=>
   rw[hg]at h;simp only at h;split at h
   ·rename_i t x d oj e1 e2 e3
    cases ht:oj.dst with
    |none=>rw[ht]at h;exact absurd h.symm hR
    |some u=>
     rw[ht]at h;simp only at h;have hj':s.all[g.1]?=some oj:=by rw[←nth_eq];exact e3
     rcases gdG_ok h hR with⟨h1,h2⟩|⟨h1,h2⟩
     ·obtain⟨h3,h4⟩:=reL_ok (F:=F) T (sp_ld e1) (hgt t (by rw[sp_ld e1];simp[tyO])) (hd []).ov hR h2;refine fin' d e2 ?_ h3;unfold GRe;rw[hg];exact⟨oj,u,hj',ht,.inl ⟨is_of (hd []).ov h1 (by simp),h4⟩⟩
     ·refine fin' d e2 ?_ h2;unfold GRe;rw[hg];refine⟨oj,u,hj',ht,.inr ?_⟩;rcases h1 with h1|⟨v,h1,h5⟩
      ·exact .inl (is_of (hd []).ov h1 (by simp))
      ·exact .inr ⟨v,is_of (hd []).ov h1 (by simp),h5⟩
   ·exact absurd h.symm hR
end Go.Proofs.YtglihimiidiacaaGreatDoor.Ev8
namespace Go.Proofs.YtglihimiidiacaaGreatDoor.Ev8
open Go
variable {P:Program} {ι ι':Io} {F:Fence} {X:Cx} {fin:Sx→WR}
structure SRl (N:Nat) (ι:Io) (θ:Te) (H:HS) (a:Act) (w:World):Prop where
 hr:HR ι H w
 tr:∀t,RV ι (θ t) (a.tmps.getD t undef)
 gl:GOk ι
 sz:a.tmps.size=N
theorem aev_rv{θ:Te}{a:Act}(hg:GOk ι){x:Operand}(hx:xOk x=true)(ht:∀t,x=.tmp t→RV ι (θ t) (a.tmps.getD t undef)):RV ι (aev θ x) (a.eval x):=by
 cases x with
 |tmp t=>exact ht t rfl
 |const v=>exact RV_of v
 |global g=>
  obtain⟨E,h1,h2,h3,-⟩:=hg g (blt_lt hx);refine⟨E,h1,?_⟩;show [Value.pointer (some ⟨g,0,none⟩)]=_;rw[h2,h3]
 |func f=>exact⟨[],rfl,rfl⟩
theorem xOk_of{o:Oper}(h:opOk o=true){x:Operand}(hx:x∈o.op.operands.toList):xOk x=true:=List.all_eq_true.1 (and_ok h).1 x hx
theorem SRl.ops{N:Nat}{θ:Te}{H:HS}{a:Act}{w:World}(h:SRl N ι θ H a w){o:Oper}(ho:opOk o=true):Ops ι θ o a:=fun _x hx=>aev_rv h.gl (xOk_of ho hx) fun t _=>h.tr t
theorem getD_put(a:Act)(d:Option Tmp)(v:Value)(t:Nat)(h:∀u,d=some u→u≠t):(a.put d v).tmps.getD t undef=a.tmps.getD t undef:=by
 cases d with
 |none=>rfl
 |some u=>
  have hu:=h u rfl;simp[Act.put,Array.getD_eq_getD_getElem?,hu]
theorem getD_put_same(a:Act)(t:Nat)(v:Value)(h:t<a.tmps.size):(a.put (some t) v).tmps.getD t undef=v:=by
 simp[Act.put,Array.getD_eq_getD_getElem?,h]
theorem dOk_lt{N:Nat}{d:Option Tmp}(h:dOk N d=true){t:Tmp}(ht:d=some t):t<N:=by subst ht;exact blt_lt h
theorem tr_put{N:Nat}{θ:Te}{a:Act}(hsz:a.tmps.size=N)(htr:∀t,RV ι (θ t) (a.tmps.getD t undef))(hl:Le ι ι'){d:Option Tmp}(hd:dOk N d=true){u:AV}{v:Value}(hu:RV ι' u v):∀t,RV ι' (thN θ d u t) ((a.put d v).tmps.getD t undef):=by
 intro t;cases d with
 |none=>exact(htr t).mono hl
 |some y=>
  by_cases e:t=y
  ·subst e;simp only[thN,upd_same];rw[getD_put_same a t v (by rw[hsz];exact dOk_lt hd rfl)];exact hu
  ·rw[getD_put a (some y) v t (fun z hz=>by simp only[Option.some.injEq]at hz;subst hz;exact Ne.symm e)];simp only[thN,upd_ne _ e];exact(htr t).mono hl
theorem SRl.put{N:Nat}{θ:Te}{H H':HS}{a:Act}{w w':World}(h:SRl N ι θ H a w)(hl:Le ι ι')(hr:HR ι' H' w'){d:Option Tmp}(hd:dOk N d=true){u:AV}{v:Value}(hu:RV ι' u v):SRl N ι' (thN θ d u) H' (a.put d v) w':=
 ⟨hr,tr_put h.sz h.tr hl hd hu,h.gl.le hl,by rw[put_size];exact h.sz⟩
theorem put_defers(a:Act)(d:Option Tmp)(v:Value):(a.put d v).defers=a.defers:=by cases d<;>rfl
theorem yld{ops:Array Oper}{tmps:Array Value}{N j:Nat}{oj:Oper}{t:Tmp}(hsz:tmps.size=N)(hj:ops[j]?=some oj)(ht:oj.dst=some t)(hd:t<N){u:AV}(hu:RV ι u (tmps.getD t undef)):(∀x,u=.b x→yielded ops tmps j=some x)∧(∀v,u=.v v→notB v=true→yielded ops tmps j=none):=by
 have hlt:t<tmps.size:=by rw[hsz];exact hd
 have e1:tmps[t]?=some (tmps.getD t undef):=by simp[Array.getD_eq_getD_getElem?,hlt]
 have e2:((ops[j]?).bind (·.dst)).bind (tmps[·]?)=some (tmps.getD t undef):=by rw[hj];simp only[Option.bind_some,ht];exact e1
 refine⟨fun x hx=>?_,fun v hv hn=>?_⟩
 ·subst hx;unfold yielded;rw[e2,hu.bool]
 ·subst hv;unfold yielded;rw[e2,hu.vv];cases v<;>first|rfl|(simp[notB]at hn)
theorem want_of{o:Oper}{g:Nat×Bool}(hg:o.guard=some g){y:Nat→Option Bool}:Region.wanted o y=(y g.1==some g.2):=by
 obtain⟨j,w⟩:=g;simp[Region.wanted,hg]
theorem want_none{o:Oper}(hg:o.guard=none){y:Nat→Option Bool}:Region.wanted o y=true:=by simp[Region.wanted,hg]
theorem gstep_wp(hF:WF F){ops:Array Oper}{N:Nat}{θ:Te}{H H1:HS}{o:Oper}{u:AV}(hst:GStep F P ops.toList θ H o u H1)(hops:∀(j:Nat) (oj:Oper),ops[j]?=some oj→dOk N oj.dst=true){a:Act}{w:World}(hsz:a.tmps.size=N)(hr:HR ι H w)(hO:Ops ι θ o a)
 (hgt:∀g oj t,o.guard=some g→ops[g.1]?=some oj→oj.dst=some t→RV ι (θ t) (a.tmps.getD t undef)) {i:Nat} (hi:ops[i]?=some o) {Q:Exit→Act→World→Prop} {next:Act→World→Prop}
 (hn:∀v w' ι',RV ι' u v→HR ι' H1 w'→Go1 ι (hp H.h) w ι' (hp H1.h) H1.nx w'→next (a.put o.dst v) w'):wpOpIn F 0 P ops Q i next a w:=by
 unfold wpOpIn;simp only[hi];unfold GStep at hst;cases hg:o.guard with
 |none=>
  rw[hg]at hst;rw[if_pos (want_none hg)];exact hst.a hF ι a w hr hO next Q hn
 |some g=>
  rw[hg]at hst;obtain⟨oj,t,h1,h2,h3⟩:=hst;have h1':ops[g.1]?=some oj:=by rw[←Array.getElem?_toList];exact h1
  have hrv:=hgt g oj t hg h1' h2;obtain⟨y1,y2⟩:=yld hsz h1' h2 (dOk_lt (hops _ _ h1') h2) hrv;rcases h3 with⟨e1,h4⟩|⟨e1,rfl,rfl⟩
  ·rw[if_pos (by rw[want_of hg,y1 _ e1];simp)];exact h4.a hF ι a w hr hO next Q hn
  ·have hw:Region.wanted o (yielded ops a.tmps)=false:=by
    rw[want_of hg];rcases e1 with e1|⟨v,e1,e2⟩
    ·rw[y1 _ e1];cases g.2<;>rfl
    ·rw[y2 v e1 e2];rfl
   rw[if_neg (by rw[hw];simp)];exact⟨fun f _=>hF.fn f,hn undef w ι rfl hr (Go1.refl hr.rel)⟩
theorem seq_ok(hF:WF F){ops:Array Oper}{N:Nat}(hops:∀(j:Nat) (oj:Oper),ops[j]?=some oj→dOk N oj.dst=true∧opOk oj=true){Q:Exit→Act→World→Prop}{fa:Bool}{pl:List Pl}{θ θ':Te}{H H':HS}(ht:Tra F P ops.toList fa pl θ H θ' H'):
 ∀(l:List Oper) (k:Nat) (ι:Io) (a:Act) (w:World),pl=l.map .op→(∀j,l[j]?=ops[k+j]?∨l[j]?=none)→SRl N ι θ H a w→(∀ι' a' w',SRl N ι' θ' H' a' w'→Go1 ι (hp H.h) w ι' (hp H'.h) H'.nx w'→a'.defers=a.defers→Q .normal a' w')→wpOpsIn F 0 P ops Q (List.range' k l.length) a w:=by
 induction ht with
 |nil=>
  intro l k ι a w hl hk hs hQ;cases l with
  |nil=>exact hQ ι a w hs (Go1.refl hs.hr.rel) rfl
  |cons o l=>simp at hl
 |@op fa o pl θ θ' H H1 H' u h t ih=>
  intro l k ι a w hl hk hs hQ;cases l with
  |nil=>simp at hl
  |cons o' l=>
   simp only[List.map_cons,List.cons.injEq,Pl.op.injEq]at hl;obtain⟨rfl,rfl⟩:=hl;have hi:ops[k]?=some o:=by
    rcases hk 0 with h0|h0
    ·simpa using h0.symm
    ·simp at h0
   rw[List.length_cons,List.range'_succ,wpOpsIn_cons];have ho:=hops k o hi;refine gstep_wp hF h (fun j oj hj=>(hops j oj hj).1) hs.sz hs.hr (hs.ops ho.2) (fun g oj t _ _ _=>hs.tr t) hi fun v w' ι' g1 g2 g3=>?_;refine ih l (k+1) ι' _ w' rfl (fun j=>by have:=hk (j+1);rwa[List.getElem?_cons_succ,show k+(j+1)=k+1+j by omega]at this) (hs.put g3.le g2 ho.1 g1) fun ι2 a2 w2 k1 k2 k3=>hQ ι2 a2 w2 k1 (g3.trans k2) (by rw[k3,put_defers])
 |@re fa o pl θ θ' H H' d hd h t ih=>
  intro l k ι a w hl;cases l with
  |nil=>simp at hl
  |cons o' l=>simp at hl
 |@two o1 o2 pl θ θ' H H1 H' u g1 g2 h t ih=>
  intro l k ι a w hl hk hs hQ;cases l with
  |nil=>simp at hl
  |cons o1' l=>cases l with
   |nil=>simp at hl
   |cons o2' l=>
    simp only[List.map_cons,List.cons.injEq,Pl.op.injEq]at hl;obtain⟨rfl,rfl,rfl⟩:=hl;have hi:ops[k]?=some o1:=by
     rcases hk 0 with h0|h0
     ·simpa using h0.symm
     ·simp at h0
    have hi2:ops[k+1]?=some o2:=by
     rcases hk 1 with h0|h0
     ·simpa using h0.symm
     ·simp at h0
    have ho1:=hops k o1 hi;have ho2:=hops (k+1) o2 hi2;rw[List.length_cons,List.length_cons,List.range'_succ,List.range'_succ,wpOpsIn_cons];unfold wpOpIn;simp only[hi];rw[if_pos (want_none g1)];have key:=h ι a w hs.hr (hs.ops ho1.2) (fun x hx _=>aev_rv hs.gl (xOk_of ho2.2 hx) fun t _=>hs.tr t) (fun t ht=>by rw[hs.sz];exact dOk_lt ho1.1 ht) (wpOpsIn F 0 P ops Q (List.range' (k+1+1) l.length)) Q fun v1 v2 w' ι' q1 q2 q3=>?_
    ·refine Oper.wpIn_mono (fun a1 w1 hh=>?_) key;rw[wpOpsIn_cons];unfold wpOpIn;simp only[hi2];rw[if_pos (want_none g2)];exact hh
    ·have hs1:SRl N ι (thN θ o1.dst .un) H (a.put o1.dst v1) w:=hs.put (Le.refl _) hs.hr ho1.1 ⟨v1,rfl⟩;refine ih l (k+1+1) ι' _ w' rfl (fun j=>by have:=hk (j+2);rwa[List.getElem?_cons_succ,List.getElem?_cons_succ,show k+(j+2)=k+1+1+j by omega]at this) (hs1.put q3.le q2 ho2.1 q1) fun ι2 a2 w2 k1 k2 k3=>hQ ι2 a2 w2 k1 (q3.trans k2) (by rw[k3,put_defers,put_defers])
end Go.Proofs.YtglihimiidiacaaGreatDoor.Ev8
namespace Go.Proofs.YtglihimiidiacaaGreatDoor.Ev8
open Go
variable {P:Program} {ι ι':Io} {F:Fence}
theorem tra_fn{all:List Oper}{fa:Bool}{L:List Pl}{θ θ':Te}{H H':HS}(h:Tra F P all fa L θ H θ' H'):fa=false→∃(Th:Nat→Te) (Hh:Nat→HS) (U:Nat→AV),Th 0=θ∧Hh 0=H∧Th L.length=θ'∧Hh L.length=H'∧
 (∀p o,L[p]?=some (.op o)→GStep F P all (Th p) (Hh p) o (U p) (Hh (p+1))∧Th (p+1)=thN (Th p) o.dst (U p))∧(∀p o,L[p]?=some (.re o)→∃d,o.dst=some d∧GRe F P all (Th p) (Hh p) o d∧Th (p+1)=Th p∧Hh (p+1)=Hh p):=by
 induction h with
 |@nil fa θ H=>intro _;exact⟨fun _=>θ,fun _=>H,fun _=>.un,rfl,rfl,rfl,rfl,fun p o h=>by simp at h,fun p o h=>by simp at h⟩
 |@op fa o l θ θ' H H1 H' u hs t ih=>
  intro hf;obtain⟨Th,Hh,U,h1,h2,h3,h4,h5,h6⟩:=ih hf;refine⟨fun p=>match p with|0=>θ|p+1=>Th p,fun p=>match p with|0=>H|p+1=>Hh p,fun p=>match p with|0=>u|p+1=>U p,rfl,rfl,h3,h4,fun p o' hp=>?_,fun p o' hp=>?_⟩
  ·cases p with
   |zero=>
    simp only[List.getElem?_cons_zero,Option.some.injEq,Pl.op.injEq]at hp;subst hp;simp only;rw[h1,h2];exact⟨hs,rfl⟩
   |succ p=>exact h5 p o' (by simpa using hp)
  ·cases p with
   |zero=>simp at hp
   |succ p=>exact h6 p o' (by simpa using hp)
 |@re fa o l θ θ' H H' d hd hs t ih=>
  intro hf;obtain⟨Th,Hh,U,h1,h2,h3,h4,h5,h6⟩:=ih hf;refine⟨fun p=>match p with|0=>θ|p+1=>Th p,fun p=>match p with|0=>H|p+1=>Hh p,fun p=>match p with|0=>.un|p+1=>U p,rfl,rfl,h3,h4,fun p o' hp=>?_,fun p o' hp=>?_⟩
  ·cases p with
   |zero=>simp at hp
   |succ p=>exact h5 p o' (by simpa using hp)
  ·cases p with
   |zero=>
    simp only[List.getElem?_cons_zero,Option.some.injEq,Pl.re.injEq]at hp;subst hp;simp only;exact⟨d,hd,hs,h1,h2⟩
   |succ p=>exact h6 p o' (by simpa using hp)
 |two=>intro hf;cases hf
def Chn(ops:Array Oper)(c:Nat):Prop:=∃o,ops[c]?=some o∧2≤kOp cvT o.op
structure PlC (ops:Array Oper) (bef:Nat→Nat→Prop) (ps:Nat→Nat) (pl:List (Nat×Bool)):Prop where
 at_:∀(i:Nat),i<ops.size→pl[ps i]?=some (i,false)
 ony:∀(p:Nat) (i:Nat),pl[p]?=some (i,false)→i<ops.size∧p=ps i
 onr:∀(p:Nat) (i:Nat),pl[p]?=some (i,true)→i<ops.size
 edg:∀(i:Nat) (o:Oper),ops[i]?=some o→∀e∈o.after,Region.binds .any e=true→bef e.on i∧e.on<i
 lin:∀(k:Nat) (i:Nat),i<ops.size→bef k i→k<ops.size∧ps k<ps i
 hul:∀(k:Nat) (i:Nat) (o:Oper),ops[i]?=some o→bef k i→∃e∈o.after,Region.binds .any e=true∧(k=e.on∨bef k e.on)
 chn:∀(i:Nat) (o:Oper),ops[i]?=some o→(kOp cvT o.op=1∨kOp cvT o.op=3)→∀c,Chn ops c→ps c<ps i→bef c i
 erl:∀(i:Nat) (o:Oper),ops[i]?=some o→kOp cvT o.op=2→o.guard=none∨(∀c,Chn ops c→ps c<ps i→bef c i)
 usr:∀(i:Nat) (o:Oper) (t:Tmp) (k:Nat) (ok:Oper),ops[i]?=some o→Operand.tmp t∈o.op.operands.toList→ops[k]?=some ok→ok.dst=some t→(bef k i∧(kOp cvT ok.op=2→(∀c,Chn ops c→ps c<ps k→bef c k)∨(∀c,Chn ops c→ps c≤ps k→bef c i)))∨bef i k
 grd:∀(i:Nat) (o:Oper) g,ops[i]?=some o→o.guard=some g→bef g.1 i∧∀og,ops[g.1]?=some og→kOp cvT og.op≠2
 rec_:∀(c:Nat) (oc:Oper) (j:Nat) (oj:Oper),ops[c]?=some oc→kOp cvT oc.op=3→ops[j]?=some oj→kOp cvT oj.op=1→ps j<ps c→¬bef j c→∃r,ps c<r∧pl[r]?=some (j,true)∧∀c',Chn ops c'→¬(ps c<ps c'∧ps c'<r)
 rop:∀(r:Nat) (j:Nat) (oj:Oper) (t:Tmp) (k:Nat) (ok:Oper),pl[r]?=some (j,true)→ops[j]?=some oj→Operand.tmp t∈oj.op.operands.toList→ops[k]?=some ok→ok.dst=some t→bef k j
 rlt:∀(r:Nat) (j:Nat),pl[r]?=some (j,true)→ps j<r
 dup:∀(i:Nat) (o:Oper) (j:Nat) (oj:Oper) (t:Tmp),ops[i]?=some o→ops[j]?=some oj→o.dst=some t→oj.dst=some t→i=j
structure TrF (F:Fence) (P:Program) (ops:Array Oper) (pl:List (Nat×Bool)) (Th:Nat→Te) (Hh:Nat→HS) (U:Nat→AV):Prop where
 opF:∀(p i:Nat) (o:Oper),pl[p]?=some (i,false)→ops[i]?=some o→GStep F P ops.toList (Th p) (Hh p) o (U p) (Hh (p+1))∧Th (p+1)=thN (Th p) o.dst (U p)
 reF:∀(p i:Nat) (o:Oper),pl[p]?=some (i,true)→ops[i]?=some o→∃d,o.dst=some d∧GRe F P ops.toList (Th p) (Hh p) o d∧Th (p+1)=Th p∧Hh (p+1)=Hh p
section
variable {ops:Array Oper} {bef:Nat→Nat→Prop} {ps:Nat→Nat} {pl:List (Nat×Bool)} {Th:Nat→Te} {Hh:Nat→HS} {U:Nat→AV}
theorem get_op{i:Nat}(h:i<ops.size):∃o,ops[i]?=some o:=⟨_,Array.getElem?_eq_getElem h⟩
theorem hh_same(C:PlC ops bef ps pl)(T:TrF F P ops pl Th Hh U){p:Nat}(hp:p<pl.length)(hc:∀c,Chn ops c→ps c≠p):Hh (p+1)=Hh p:=by
 obtain⟨⟨i,b⟩,hi⟩:∃q,pl[p]?=some q:=⟨_,List.getElem?_eq_getElem hp⟩;cases b with
 |true=>
  obtain⟨o,ho⟩:=get_op (C.onr p i hi);obtain⟨d,-,-,-,h⟩:=T.reF p i o hi ho;exact h
 |false=>
  obtain⟨hlt,rfl⟩:=C.ony p i hi;obtain⟨o,ho⟩:=get_op hlt;have h:=(T.opF _ i o hi ho).1;have hk:kOp cvT o.op<2:=by
   by_cases h2:2≤kOp cvT o.op
   ·exact absurd rfl (hc i ⟨o,ho,h2⟩)
   ·omega
  have hks:∀u H',KStep F P (Th (ps i)) (Hh (ps i)) o u H'→H'=Hh (ps i):=fun u H' hk'=>by
   unfold KStep at hk';have:kOp cvT o.op=0∨kOp cvT o.op=1:=by omega
   rcases this with e|e<;>rw[e]at hk'<;>exact hk'.1
  unfold GStep at h;cases hg:o.guard with
  |none=>rw[hg]at h;exact hks _ _ h
  |some g=>
   rw[hg]at h;obtain⟨oj,t,-,-,h3⟩:=h;rcases h3 with⟨-,h4⟩|⟨-,-,h4⟩
   ·exact hks _ _ h4
   ·exact h4
theorem hh_range(C:PlC ops bef ps pl)(T:TrF F P ops pl Th Hh U){p:Nat}:∀{q:Nat},p≤q→q≤pl.length→(∀c,Chn ops c→¬(p≤ps c∧ps c<q))→Hh q=Hh p:=by
 intro q;induction q with
 |zero=>
  intro h _ _;have:p=0:=by omega
  subst this;rfl
 |succ q ih=>
  intro h hq hc;by_cases e:p=q+1
  ·subst e;rfl
  ·rw[hh_same C T (by omega) (fun c hch hps=>hc c hch ⟨by omega,by omega⟩)];exact ih (by omega) (by omega) fun c hch hr=>hc c hch ⟨hr.1,by omega⟩
theorem th_step(C:PlC ops bef ps pl)(T:TrF F P ops pl Th Hh U){p:Nat}(hp:p<pl.length){t:Nat}(hn:∀k ok,ops[k]?=some ok→ok.dst=some t→ps k≠p):Th (p+1) t=Th p t:=by
 obtain⟨⟨i,b⟩,hi⟩:∃q,pl[p]?=some q:=⟨_,List.getElem?_eq_getElem hp⟩;cases b with
 |true=>
  obtain⟨o,ho⟩:=get_op (C.onr p i hi);obtain⟨d,-,-,h,-⟩:=T.reF p i o hi ho;rw[h]
 |false=>
  obtain⟨hlt,rfl⟩:=C.ony p i hi;obtain⟨o,ho⟩:=get_op hlt;rw[(T.opF _ i o hi ho).2];exact thN_ne fun y hy q=>hn i o ho (by rw[hy,q]) rfl
theorem th_range(C:PlC ops bef ps pl)(T:TrF F P ops pl Th Hh U){t p:Nat}:∀{q:Nat},p≤q→q≤pl.length→(∀k ok,ops[k]?=some ok→ok.dst=some t→¬(p≤ps k∧ps k<q))→Th q t=Th p t:=by
 intro q;induction q with
 |zero=>
  intro h _ _;have:p=0:=by omega
  subst this;rfl
 |succ q ih=>
  intro h hq hc;by_cases e:p=q+1
  ·subst e;rfl
  ·rw[th_step C T (by omega) (fun k ok h1 h2 h3=>hc k ok h1 h2 ⟨by omega,by omega⟩)];exact ih (by omega) (by omega) fun k ok h1 h2 hr=>hc k ok h1 h2 ⟨hr.1,by omega⟩
theorem ps_lt(C:PlC ops bef ps pl){i:Nat}(h:i<ops.size):ps i<pl.length:=(List.getElem?_eq_some_iff.1 (C.at_ i h)).1
theorem th_old(C:PlC ops bef ps pl)(T:TrF F P ops pl Th Hh U){t q:Nat}(hq:q≤pl.length)(h:∀k ok,ops[k]?=some ok→ok.dst=some t→q≤ps k):Th q t=Th 0 t:=th_range C T (Nat.zero_le _) hq fun k ok h1 h2 h3=>by have:=h k ok h1 h2;omega
theorem th_new(C:PlC ops bef ps pl)(T:TrF F P ops pl Th Hh U){t q k:Nat}{ok:Oper}(hq:q≤pl.length)(hk:ops[k]?=some ok)(hd:ok.dst=some t)(h:ps k<q):Th q t=U (ps k):=by
 have hlt:k<ops.size:=(Array.getElem?_eq_some_iff.1 hk).1;rw[th_range C T (p:=ps k+1) (by omega) hq fun k' ok' h1 h2 h3=>by
  have:=C.dup k' ok' k ok t h1 hk h2 hd;subst this;omega]
 rw[(T.opF _ k ok (C.at_ k hlt) hk).2,hd];simp[thN,upd_same]
end
end Go.Proofs.YtglihimiidiacaaGreatDoor.Ev8
namespace Go.Proofs.YtglihimiidiacaaGreatDoor.Ev8
open Go
variable {P:Program} {ι ι':Io} {F:Fence}
theorem kOp_le(op:Op):kOp cvT op≤3:=by
 cases op<;>first|(show(0:Nat)≤3;omega)|(show(1:Nat)≤3;omega)|(show(2:Nat)≤3;omega)|(show(3:Nat)≤3;omega)|skip
 ·rename_i a d x
  show(bif cvT d then 0 else 3)≤3;cases cvT d<;>simp
 ·rename_i c
  show(match c.callee with|.builtin .len|.builtin .min|.builtin .max=>0|_=>3)≤3;split<;>omega
def Wf(H:HS):Prop:=∀b,b<16384→(∃f n,Row H b f n)→b<H.nx
theorem HR.wf{H:HS}{w:World}(hr:HR ι H w):Wf H:=by
 intro b hb ⟨f,n,hrow⟩;have hd:dead (hp H.h b)=false:=by
  simp only[hp,if_pos hb];rcases hrow with⟨τ,cs,hB,-⟩|⟨τ,cs,hB,-⟩<;>rw[hB]<;>rfl
 obtain⟨E,hE,-⟩:=hr.rel.blk b hd;by_cases h:b<H.nx
 ·exact h
 ·rw[hr.rel.new b (by omega)]at hE;cases hE
theorem aev_congr{θ θ':Te}{x:Operand}(h:∀t,x=.tmp t→θ' t=θ t):aev θ' x=aev θ x:=by
 cases x with
 |tmp t=>exact h t rfl
 |_=>rfl
theorem LStep.th{θ θ':Te}{H:HS}{o:Oper}{u:AV}(h:LStep P θ H o u)(hx:∀t,Operand.tmp t∈o.op.operands.toList→θ' t=θ t):LStep P θ' H o u:=by
 obtain⟨t,x,b,q,f,n,ho,h1,h2⟩:=h;exact⟨t,x,b,q,f,n,ho,by rw[aev_congr fun t' ht'=>hx t' (by rw[ho,ht'];simp[Op.operands])];exact h1,h2⟩
section
variable {ops:Array Oper} {bef:Nat→Nat→Prop} {ps:Nat→Nat} {pl:List (Nat×Bool)} {Th:Nat→Te} {Hh:Nat→HS} {U:Nat→AV}
theorem load_parts(C:PlC ops bef ps pl)(T:TrF F P ops pl Th Hh U){j:Nat}{oj:Oper}(hj:ops[j]?=some oj)(hk:kOp cvT oj.op=1):GStep F P ops.toList (Th (ps j)) (Hh (ps j)) oj (U (ps j)) (Hh (ps j))∧∀H,(LStep P (Th (ps j)) (Hh (ps j)) oj (U (ps j))→LStep P (Th (ps j)) H oj (U (ps j)))→GStep F P ops.toList (Th (ps j)) H oj (U (ps j)) H:=by
 have hlt:j<ops.size:=(Array.getElem?_eq_some_iff.1 hj).1;have h:=(T.opF _ j oj (C.at_ j hlt) hj).1;have hsame:Hh (ps j+1)=Hh (ps j):=hh_same C T (ps_lt C hlt) fun c hc e=>by
  obtain⟨oc,h1,h2⟩:=hc;have hclt:c<ops.size:=(Array.getElem?_eq_some_iff.1 h1).1;have:=C.at_ c hclt;rw[e,C.at_ j hlt]at this;simp only[Option.some.injEq,Prod.mk.injEq]at this;obtain⟨rfl,-⟩:=this;rw[hj]at h1;cases h1;omega
 rw[hsame]at h;refine⟨h,fun H hH=>?_⟩;unfold GStep at h ⊢;cases hg:oj.guard with
 |none=>
  rw[hg]at h;unfold KStep at h ⊢;rw[hk]at h ⊢;exact⟨rfl,hH h.2⟩
 |some g=>
  rw[hg]at h;obtain⟨og,t,h1,h2,h3⟩:=h;refine⟨og,t,h1,h2,?_⟩;rcases h3 with⟨e1,h4⟩|⟨e1,e2,-⟩
  ·refine .inl ⟨e1,?_⟩;unfold KStep at h4 ⊢;rw[hk]at h4 ⊢;exact⟨rfl,hH h4.2⟩
  ·exact .inr ⟨e1,e2,rfl⟩
theorem th_at(C:PlC ops bef ps pl)(T:TrF F P ops pl Th Hh U){j r t:Nat}{oj:Oper}(hj:ops[j]?=some oj)(hr:ps j<r)(hrl:r≤pl.length)(hw:∀k ok,ops[k]?=some ok→ok.dst=some t→bef k j):Th r t=Th (ps j) t:=by
 have hlt:j<ops.size:=(Array.getElem?_eq_some_iff.1 hj).1;have hpl:=ps_lt C hlt;by_cases he:∃(k:Nat) (ok:Oper),ops[k]?=some ok∧ok.dst=some t
 ·obtain⟨k,ok,h1,h2⟩:=he;have h3:=(C.lin k j hlt (hw k ok h1 h2)).2;rw[th_new C T hrl h1 h2 (by omega),th_new C T (by omega) h1 h2 h3]
 ·exact(th_old C T hrl fun k ok h1 h2=>absurd ⟨k,ok,h1,h2⟩ he).trans (th_old C T (q:=ps j) (by omega) fun k ok h1 h2=>absurd ⟨k,ok,h1,h2⟩ he).symm
theorem re_fact(C:PlC ops bef ps pl)(T:TrF F P ops pl Th Hh U){j r:Nat}{oj:Oper}(hj:ops[j]?=some oj)(hk:kOp cvT oj.op=1)(hr:pl[r]?=some (j,true)):GStep F P ops.toList (Th (ps j)) (Hh r) oj (U (ps j)) (Hh r):=by
 have hlt:j<ops.size:=(Array.getElem?_eq_some_iff.1 hj).1;have hps:=C.rlt r j hr;have hrl:r≤pl.length:=Nat.le_of_lt (List.getElem?_eq_some_iff.1 hr).1;obtain⟨d,hd,hre,-,-⟩:=T.reF r j oj hr hj;have hU:Th r d=U (ps j):=th_new C T hrl hj hd hps;have hop:∀t,Operand.tmp t∈oj.op.operands.toList→Th r t=Th (ps j) t:=fun t ht=>th_at C T hj hps hrl fun k ok h1 h2=>C.rop r j oj t k ok hr hj ht h1 h2;have hks:KStep F P (Th r) (Hh r) oj (Th r d) (Hh r)→KStep F P (Th (ps j)) (Hh r) oj (U (ps j)) (Hh r):=fun h=>by
  unfold KStep at h ⊢;rw[hk]at h ⊢;rw[hU]at h;exact⟨rfl,h.2.th fun t ht=>(hop t ht).symm⟩
 have hbase:=(load_parts C T hj hk).1;unfold GRe at hre;unfold GStep at hbase ⊢;cases hg:oj.guard with
 |none=>rw[hg]at hre;exact hks hre
 |some g=>
  rw[hg]at hre hbase;obtain⟨og,t,h1,h2,h3⟩:=hre;obtain⟨og',t',h1',h2',h3'⟩:=hbase;rw[h1]at h1';cases h1';rw[h2]at h2';cases h2';have h1a:ops[g.1]?=some og:=by rw[←Array.getElem?_toList];exact h1
  have hgt:Th r t=Th (ps j) t:=th_at C T hj hps hrl fun k ok k1 k2=>by
   rw[C.dup k ok g.1 og t k1 h1a k2 h2];exact(C.grd j oj g hj hg).1
  refine⟨og,t,h1,h2,?_⟩;rcases h3' with⟨e1,h4⟩|⟨e1,e2,-⟩
  ·rcases h3 with⟨e3,h5⟩|e3
   ·exact .inl ⟨e1,hks h5⟩
   ·exfalso;rw[hgt,e1]at e3;rcases e3 with e3|⟨v,e3,-⟩
    ·injection e3 with e3;revert e3;cases g.2<;>simp
    ·cases e3
  ·exact .inr ⟨e1,e2,rfl⟩
theorem lay_load(C:PlC ops bef ps pl)(T:TrF F P ops pl Th Hh U){c:Nat}{oc:Oper}(hc:ops[c]?=some oc)(hk:kOp cvT oc.op=2)(hwf:Wf (Hh (ps c))){θ:Te}{o:Oper}{u:AV}(h:LStep P θ (Hh (ps c)) o u):LStep P θ (Hh (ps c+1)) o u:=by
 have hlt:c<ops.size:=(Array.getElem?_eq_some_iff.1 hc).1;have hst:=(T.opF _ c oc (C.at_ c hlt) hc).1;have key:KStep F P (Th (ps c)) (Hh (ps c)) oc (U (ps c)) (Hh (ps c+1))→LStep P θ (Hh (ps c+1)) o u:=fun hks=>by
  unfold KStep at hks;rw[hk]at hks;obtain⟨B,t,l,n,mk,e1,e2,-⟩:=hks;refine h.at fun b hb hrow=>?_;rw[e1];exact get_put_ne 7 _ _ (by simpa using e2) (by simpa using hb) (by have:=hwf b hb hrow;omega)
 unfold GStep at hst;cases hg:oc.guard with
 |none=>rw[hg]at hst;exact key hst
 |some g=>
  rw[hg]at hst;obtain⟨og,t,-,-,h3⟩:=hst;rcases h3 with⟨-,h4⟩|⟨-,-,h4⟩
  ·exact key h4
  ·rw[h4];exact h
theorem load_at(C:PlC ops bef ps pl)(T:TrF F P ops pl Th Hh U){j:Nat}{oj:Oper}(hj:ops[j]?=some oj)(hk:kOp cvT oj.op=1):∀{q:Nat},ps j≤q→q≤pl.length→(∀c,Chn ops c→ps j≤ps c→ps c<q→¬bef j c)→(∀q',q'≤q→Wf (Hh q'))→GStep F P ops.toList (Th (ps j)) (Hh q) oj (U (ps j)) (Hh q):=by
 intro q;induction q with
 |zero=>
  intro h1 _ _ _;have:ps j=0:=by omega
  have h:=(load_parts C T hj hk).1;rw[this]at h ⊢;exact h
 |succ q ih=>
  intro h1 h2 h3 h4;by_cases e:ps j=q+1
  ·have h:=(load_parts C T hj hk).1;rw[e]at h ⊢;exact h
  ·have hq:=ih (by omega) (by omega) (fun c hc a b=>h3 c hc a (by omega)) fun q' hq'=>h4 q' (by omega);by_cases hch:∃c,Chn ops c∧ps c=q
   ·obtain⟨c,⟨oc,hc1,hc2⟩,rfl⟩:=hch;have hlt:c<ops.size:=(Array.getElem?_eq_some_iff.1 hc1).1;by_cases h2k:kOp cvT oc.op=2
    ·have hp:=(load_parts C T hj hk).2;unfold GStep at hq ⊢;cases hg:oj.guard with
     |none=>
      rw[hg]at hq;unfold KStep at hq ⊢;rw[hk]at hq ⊢;exact⟨rfl,lay_load C T hc1 h2k (h4 _ (by omega)) hq.2⟩
     |some g=>
      rw[hg]at hq;obtain⟨og,t,k1,k2,k3⟩:=hq;refine⟨og,t,k1,k2,?_⟩;rcases k3 with⟨e1,k4⟩|⟨e1,e2,-⟩
      ·refine .inl ⟨e1,?_⟩;unfold KStep at k4 ⊢;rw[hk]at k4 ⊢;exact⟨rfl,lay_load C T hc1 h2k (h4 _ (by omega)) k4.2⟩
      ·exact .inr ⟨e1,e2,rfl⟩
    ·have hk3:kOp cvT oc.op=3:=by
      have:kOp cvT oc.op≤3:=kOp_le oc.op;omega
     obtain⟨r,r1,r2,r3⟩:=C.rec_ c oc j oj hc1 hk3 hj hk (by
      rcases Nat.lt_or_eq_of_le (show ps j≤ps c by omega) with h|h
      ·exact h
      ·exfalso;have hjl:j<ops.size:=(Array.getElem?_eq_some_iff.1 hj).1;have e1:=C.at_ c hlt;rw[←h,C.at_ j hjl]at e1;simp only[Option.some.injEq,Prod.mk.injEq]at e1;obtain⟨rfl,-⟩:=e1;rw[hj]at hc1;cases hc1;omega) (h3 c ⟨oc,hc1,hc2⟩ (by omega) (by omega))
     have hrl:r≤pl.length:=Nat.le_of_lt (List.getElem?_eq_some_iff.1 r2).1;have hre:=re_fact C T hj hk r2;rw[hh_range C T (p:=ps c+1) (q:=r) (by omega) hrl fun c' hc' hh=>r3 c' hc' ⟨by omega,hh.2⟩]at hre;exact hre
   ·have hs:Hh (q+1)=Hh q:=hh_same C T (by omega) fun c hc e'=>hch ⟨c,hc,e'⟩;rw[hs];exact hq
end
end Go.Proofs.YtglihimiidiacaaGreatDoor.Ev8
namespace Go.Proofs.YtglihimiidiacaaGreatDoor.Ev8
open Go
variable {P:Program} {ι ι':Io} {F:Fence}
theorem Rel.adopt{h:Hp}{nx:Nat}{w:World}(hr:Rel ι h nx w){B:Nat}{us:List Value}{t:TypeId}{l:AV}{n:Nat}(hB:w.heap[B]?=some (.cells us.toArray t))(hn:¬Own ι h B)(hl:lenL' l=some n)(hR:RL ι l us):Rel (upd ι nx (some ⟨B,0,0,n⟩)) (upd h nx (.c (some t) (nthA l) n)) (nx+1) w∧Le ι (upd ι nx (some ⟨B,0,0,n⟩)):=by
 obtain⟨h1,h2⟩:=RL.len hl hR;have hle:Le ι (upd ι nx (some ⟨B,0,0,n⟩)):=fun b e hb=>by
  by_cases q:b=nx
  ·subst q;rw[hr.new b (Nat.le_refl _)]at hb;cases hb
  ·rwa[upd_ne _ q]
 have hlt:B<w.heap.size:=(Array.getElem?_eq_some_iff.1 hB).1;refine⟨⟨fun b hb=>?_,fun b hb=>by rw[upd_ne _ (by omega)];exact hr.new b (by omega),fun b1 b2 E1 E2 d1 d2 e1 e2 e=>?_,fun b E hE=>?_⟩,hle⟩
 ·by_cases q:b=nx
  ·subst q;rw[upd_same,upd_same];refine⟨_,rfl,us.toArray,t,(0,0),by rw[hB];rfl,by simp[h1],by simp,fun i _=>by simp,fun i hi=>?_⟩;obtain⟨v,a,b⟩:=h2 i hi;exact⟨v,by simpa using a,b.mono hle⟩
  ·rw[upd_ne _ q]at hb;rw[upd_ne _ q,upd_ne _ q];obtain⟨E,h1,h2⟩:=hr.blk b hb;exact⟨E,h1,h2.mono hle⟩
 ·by_cases q1:b1=nx
  ·by_cases q2:b2=nx
   ·rw[q1,q2]
   ·exfalso;rw[q1,upd_same]at e1;cases e1;rw[upd_ne _ q2]at d2 e2;exact hn ⟨b2,E2,d2,e2,e.symm⟩
  ·by_cases q2:b2=nx
   ·exfalso;rw[q2,upd_same]at e2;cases e2;rw[upd_ne _ q1]at d1 e1;exact hn ⟨b1,E1,d1,e1,e⟩
   ·rw[upd_ne _ q1]at d1 e1;rw[upd_ne _ q2]at d2 e2;exact hr.apart b1 b2 E1 E2 d1 d2 e1 e2 e
 ·by_cases q:b=nx
  ·rw[q,upd_same]at hE;cases hE;exact hlt
  ·rw[upd_ne _ q]at hE;exact hr.inn b E hE
section
variable {ops:Array Oper} {bef:Nat→Nat→Prop} {ps:Nat→Nat} {pl:List (Nat×Bool)} {Th:Nat→Te} {Hh:Nat→HS} {U:Nat→AV}
def Pnd(_P:Program)(ops:Array Oper)(ps:Nat→Nat)(Hh:Nat→HS)(U:Nat→AV)(s0:Nat)(ι:Io)(f:Nat)(a:Act)(w:World)(c B:Nat):Prop:=∃(o:Oper) (Bk:Blk) (t:TypeId) (l:AV) (n:Nat) (mk:Nat→Value) (us:List Value),ops[c]?=some o∧kOp cvT o.op=2∧Hh (ps c+1)=⟨put 7 (Hh (ps c)).nx Bk (Hh (ps c)).h,(Hh (ps c)).nx+1⟩∧(Hh (ps c)).nx<16384∧BlkOf (some t) l n Bk∧(∀ι E,ι (Hh (ps c)).nx=some E→E.d=0→RV ι (U (ps c)) (mk E.b))∧
 w.heap[B]?=some (.cells us.toArray t)∧RL ι l us∧(∀d,o.dst=some d→a.tmps.getD d undef=mk B)∧s0≤B∧¬Own ι (hp (Hh f).h) B
structure Pre (P:Program) (ops:Array Oper) (bef:Nat→Nat→Prop) (ps:Nat→Nat) (pl:List (Nat×Bool)) (Th:Nat→Te) (Hh:Nat→HS) (U:Nat→AV) (N:Nat) (ι0:Io) (w0:World) (D:List Deferred) (Ld:Nat→Prop) (Bf:Nat→Nat) (a:Act) (w:World) (ι:Io) (f:Nat):Prop where
 cl:∀i k,Ld i→bef k i→Ld k
 fl:f≤pl.length
 fr:∀c,Chn ops c→ps c<f→Ld c
 hr:HR ι (Hh f) w
 gl:GOk ι
 go:Go1 ι0 (hp (Hh 0).h) w0 ι (hp (Hh f).h) (Hh f).nx w
 ts:a.tmps.size=N
 df:a.defers=D
 old:∀t,(∀(k:Nat) (ok:Oper),ops[k]?=some ok→ok.dst=some t→¬Ld k)→RV ι (Th 0 t) (a.tmps.getD t undef)
 new:∀(k:Nat) (ok:Oper) t,ops[k]?=some ok→ok.dst=some t→Ld k→(kOp cvT ok.op≠2∨ps k<f)→RV ι (U (ps k)) (a.tmps.getD t undef)
 pnd:∀c,Chn ops c→f≤ps c→Ld c→Pnd P ops ps Hh U w0.heap.size ι f a w c (Bf c)
 inj:∀c c',Chn ops c→Chn ops c'→f≤ps c→f≤ps c'→Ld c→Ld c'→Bf c=Bf c'→c=c'
 wf:∀q,q≤f→Wf (Hh q)
 sn:Snt ι0 (hp (Hh 0).h) w0
def Nxt(ops:Array Oper)(ps:Nat→Nat)(Ld:Nat→Prop)(f:Nat):Prop:=∀c,Chn ops c→f≤ps c→Ld c→∃c',Chn ops c'∧f≤ps c'∧ps c'<ps c∧¬Ld c'
variable {N:Nat} {ι0:Io} {w0:World} {D:List Deferred} {Ld:Nat→Prop} {Bf:Nat→Nat} {a:Act} {w:World} {f:Nat}
theorem Pre.adopt(C:PlC ops bef ps pl)(T:TrF F P ops pl Th Hh U)(I:Pre P ops bef ps pl Th Hh U N ι0 w0 D Ld Bf a w ι f){c:Nat}(hc:Chn ops c)(hf:f≤ps c)(hl:Ld c)(hno:∀c',Chn ops c'→¬(f≤ps c'∧ps c'<ps c)):∃ι',Pre P ops bef ps pl Th Hh U N ι0 w0 D Ld Bf a w ι' (ps c+1):=by
 obtain⟨o,Bk,t,l,n,mk,us,h1,h2,h3,h4,h5,h6,h7,h8,h9,h10,h11⟩:=I.pnd c hc hf hl;have hclt:c<ops.size:=(Array.getElem?_eq_some_iff.1 h1).1;have hpl:=ps_lt C hclt;have hs:Hh (ps c)=Hh f:=hh_range C T hf (by omega) hno;rw[hs]at h3 h4 h6;obtain⟨hr,hle⟩:=I.hr.rel.adopt (l:=l) (n:=n) h7 h11 h5.2.1 h8;generalize hι:upd ι (Hh f).nx (some (⟨Bf c,0,0,n⟩:Ent))=ι' at hr hle;have hE:ι' (Hh f).nx=some ⟨Bf c,0,0,n⟩:=by rw[←hι,upd_same]
 obtain⟨g,hg1,hg2⟩:=h5.2.2;have hr':Rel ι' (upd (hp (Hh f).h) (Hh f).nx (hv Bk)) ((Hh f).nx+1) w:=by
  have:=hr.cong (b:=(Hh f).nx) (τ':=some t) (cs':=g) (upd_same _ _ _) (.inl rfl) hg2;rw[upd_upd]at this;rw[hg1];exact this
 have hh':hp (Hh (ps c+1)).h=upd (hp (Hh f).h) (Hh f).nx (hv Bk):=by rw[h3];exact hp_put Bk _ h4
 have hown:∀B',Own ι' (hp (Hh (ps c+1)).h) B'→Own ι (hp (Hh f).h) B'∨B'=Bf c:=fun B' ⟨b,E,d1,e1,e2⟩=>by
  by_cases q:b=(Hh f).nx
  ·subst q;rw[hE]at e1;cases e1;exact .inr e2.symm
  ·rw[hh',upd_ne _ q]at d1;rw[←hι,upd_ne _ q]at e1;exact .inl ⟨b,E,d1,e1,e2⟩
 have hnx:(Hh (ps c+1)).nx=(Hh f).nx+1:=by rw[h3]
 have hgo:Go1 ι0 (hp (Hh 0).h) w0 ι' (hp (Hh (ps c+1)).h) (Hh (ps c+1)).nx w:=by
  refine⟨I.go.le.trans hle,by rw[hh',hnx];exact hr',I.go.size,I.go.keep,fun B' hB'=>?_,I.go.env,fun B' q1 q2=>(hown B' q2).elim (fun q3=>I.go.shp B' q1 q3) (fun q3=>by omega)⟩;rcases hown B' hB' with h|rfl
  ·exact I.go.own B' h
  ·exact .inr h10
 have hHR:HR ι' (Hh (ps c+1)) w:=by
  rw[h3];have hI:HR ι ⟨(Hh f).h,(Hh f).nx⟩ w:=I.hr;exact hI.put h4 h5.1 (by omega) hle hr' (by rw[←hh'];exact I.sn.go hgo)
 refine⟨ι',I.cl,by omega,fun c' hc' hp'=>?_,hHR,I.gl.le hle,hgo,I.ts,I.df,fun t' ht'=>(I.old t' ht').mono hle,fun k ok t' k1 k2 k3 k4=>?_,fun c' hc' hf' hl'=>?_,fun c1 c2 a1 a2 a3 a4=>I.inj c1 c2 a1 a2 (by omega) (by omega),fun q hq=>?_,I.sn⟩
 ·by_cases e:ps c'<f
  ·exact I.fr c' hc' e
  ·have:ps c'=ps c:=by
    have:=hno c' hc';omega
   obtain⟨oc',k1,-⟩:=hc';have e1:=C.at_ c' (Array.getElem?_eq_some_iff.1 k1).1;rw[this,C.at_ c hclt]at e1;simp only[Option.some.injEq,Prod.mk.injEq]at e1;rw[←e1.1];exact hl
 ·by_cases e:k=c
  ·subst e;rw[h1]at k1;cases k1;rw[h9 t' k2];exact h6 ι' _ hE rfl
  ·refine(I.new k ok t' k1 k2 k3 ?_).mono hle;by_cases hk2:kOp cvT ok.op=2
   ·right
    by_cases q:ps k<f
    ·exact q
    ·exfalso;have h5':ps k<ps c+1:=by
      rcases k4 with k4|k4
      ·exact absurd hk2 k4
      ·exact k4
     have:=hno k ⟨ok,k1,by omega⟩;have hne:ps k≠ps c:=fun q2=>e (by
      have e1:=C.at_ k (Array.getElem?_eq_some_iff.1 k1).1;rw[q2,C.at_ c hclt]at e1;simp only[Option.some.injEq,Prod.mk.injEq]at e1;exact e1.1.symm)
     omega
   ·exact .inl hk2
 ·obtain⟨o',Bk',t',l',n',mk',us',j1,j2,j3,j4,j5,j6,j7,j8,j9,j10,j11⟩:=I.pnd c' hc' (by omega) hl';refine⟨o',Bk',t',l',n',mk',us',j1,j2,j3,j4,j5,j6,j7,j8.mono hle,j9,j10,fun ho=>?_⟩;rcases hown _ ho with h|h
  ·exact j11 h
  ·have:=I.inj c' c hc' hc (by omega) hf hl' hl h;subst this;omega
 ·by_cases e:q≤f
  ·exact I.wf q e
  ·by_cases e2:q=ps c+1
   ·subst e2;exact hHR.wf
   ·have:Hh q=Hh f:=hh_range C T (by omega) (by omega) fun c' hc' hh=>hno c' hc' ⟨hh.1,by omega⟩;rw[this];exact I.wf f (Nat.le_refl _)
end
end Go.Proofs.YtglihimiidiacaaGreatDoor.Ev8
namespace Go.Proofs.YtglihimiidiacaaGreatDoor.Ev8
open Go
variable {P:Program} {ι ι':Io} {F:Fence}
section
variable {ops:Array Oper} {bef:Nat→Nat→Prop} {ps:Nat→Nat} {pl:List (Nat×Bool)} {Th:Nat→Te} {Hh:Nat→HS} {U:Nat→AV}
variable {N:Nat} {ι0:Io} {w0:World} {D:List Deferred} {Ld:Nat→Prop} {Bf:Nat→Nat} {a:Act} {w:World} {f:Nat}
theorem ps_inj(C:PlC ops bef ps pl){i k:Nat}{oi ok:Oper}(hi:ops[i]?=some oi)(hk:ops[k]?=some ok)(h:ps i=ps k):i=k:=by
 have e1:=C.at_ i (Array.getElem?_eq_some_iff.1 hi).1;rw[h,C.at_ k (Array.getElem?_eq_some_iff.1 hk).1]at e1;simp only[Option.some.injEq,Prod.mk.injEq]at e1;exact e1.1.symm
theorem least_chn{q:Nat→Prop}:∀n c,Chn ops c→q c→ps c≤n→∃c,Chn ops c∧q c∧∀c',Chn ops c'→q c'→ps c≤ps c'
 |0,c,hc,hq,hn=>⟨c,hc,hq,fun c' _ _=>by omega⟩
 |n+1,c,hc,hq,hn=>by
  by_cases h:∃c',Chn ops c'∧q c'∧ps c'<ps c
  ·obtain⟨c',h1,h2,h3⟩:=h;exact least_chn n c' h1 h2 (by omega)
  ·exact⟨c,hc,hq,fun c' h1 h2=>Nat.le_of_not_lt fun h3=>h ⟨c',h1,h2,h3⟩⟩
theorem Pre.norm(C:PlC ops bef ps pl)(T:TrF F P ops pl Th Hh U):∀(m:Nat) {ι:Io} {f:Nat},pl.length-f≤m→Pre P ops bef ps pl Th Hh U N ι0 w0 D Ld Bf a w ι f→∃ι' f',Pre P ops bef ps pl Th Hh U N ι0 w0 D Ld Bf a w ι' f'∧Nxt ops ps Ld f'
 |m,ι,f,hm,I=>by
  by_cases hn:Nxt ops ps Ld f
  ·exact⟨ι,f,I,hn⟩
  ·unfold Nxt at hn;simp only[Classical.not_forall]at hn;obtain⟨c0,hc0,hf0,hl0,hno0⟩:=hn;have hall:∀c',Chn ops c'→f≤ps c'→ps c'<ps c0→Ld c':=fun c' h1 h2 h3=>Classical.byContradiction fun h4=>hno0 ⟨c',h1,h2,h3,h4⟩;obtain⟨c,h1,h2,h3⟩:=least_chn (ops:=ops) (ps:=ps) (q:=fun c=>f≤ps c) (ps c0) c0 hc0 hf0 (Nat.le_refl _);have hlc:Ld c:=by
    rcases Nat.lt_or_ge (ps c) (ps c0) with h|h
    ·exact hall c h1 h2 h
    ·have hle:=h3 c0 hc0 hf0;obtain⟨o1,k1,-⟩:=h1;obtain⟨o2,k2,-⟩:=hc0;have:c=c0:=ps_inj C k1 k2 (Nat.le_antisymm hle h);rw[this];exact hl0
   obtain⟨ι1,I1⟩:=I.adopt C T h1 h2 hlc fun c' hc' hh=>by have:=h3 c' hc' hh.1;omega
   have hlt:=I1.fl;match m,hm with
   |0,hm=>exact absurd hm (by omega)
   |m+1,hm=>exact Pre.norm C T m (by omega) I1
theorem Pre.see(C:PlC ops bef ps pl)(T:TrF F P ops pl Th Hh U)(I:Pre P ops bef ps pl Th Hh U N ι0 w0 D Ld Bf a w ι f)(hn:Nxt ops ps Ld f){j:Nat}{oj:Oper}(hj:ops[j]?=some oj)(hjl:¬Ld j)(hb:∀k,bef k j→Ld k)(hok:opOk oj=true):
 Ops ι (Th (ps j)) oj a∧∀g og t,oj.guard=some g→ops[g.1]?=some og→og.dst=some t→RV ι (Th (ps j) t) (a.tmps.getD t undef):=by
 have hlt:j<ops.size:=(Array.getElem?_eq_some_iff.1 hj).1;have hpl:=ps_lt C hlt;refine⟨fun x hx=>aev_rv I.gl (xOk_of hok hx) fun t ht=>?_,fun g og t hg h1 h2=>?_⟩
 ·subst ht;by_cases he:∃(k:Nat) (ok:Oper),ops[k]?=some ok∧ok.dst=some t
  ·obtain⟨k,ok,h1,h2⟩:=he;rcases C.usr j oj t k ok hj hx h1 h2 with⟨h3,h4⟩|h3
   ·have hlk:=hb k h3;rw[th_new C T (Nat.le_of_lt hpl) h1 h2 (C.lin k j hlt h3).2];refine I.new k ok t h1 h2 hlk ?_;by_cases hk2:kOp cvT ok.op=2
    ·right
     refine Classical.byContradiction fun hge=>?_;obtain⟨c',g1,g2,g3,g4⟩:=hn k ⟨ok,h1,by omega⟩ (by omega) hlk;rcases h4 hk2 with h5|h5
     ·exact g4 (I.cl k c' hlk (h5 c' g1 g3))
     ·exact g4 (hb c' (h5 c' g1 (by omega)))
    ·exact .inl hk2
   ·have hk:¬Ld k:=fun q=>hjl (I.cl k j q h3);have hklt:k<ops.size:=(Array.getElem?_eq_some_iff.1 h1).1;rw[th_old C T (Nat.le_of_lt hpl) fun k' ok' q1 q2=>by
     rw[C.dup k' ok' k ok t q1 h1 q2 h2];exact Nat.le_of_lt (C.lin j k hklt h3).2]
    exact I.old t fun k' ok' q1 q2=>by rw[C.dup k' ok' k ok t q1 h1 q2 h2];exact hk
  ·rw[th_old C T (Nat.le_of_lt hpl) fun k' ok' q1 q2=>absurd ⟨k',ok',q1,q2⟩ he];exact I.old t fun k' ok' q1 q2=>absurd ⟨k',ok',q1,q2⟩ he
 ·obtain⟨h3,h4⟩:=C.grd j oj g hj hg;rw[th_new C T (Nat.le_of_lt hpl) h1 h2 (C.lin g.1 j hlt h3).2];exact I.new g.1 og t h1 h2 (hb _ h3) (.inl (h4 og h1))
theorem Pnd.keep{f':Nat}{c B s0:Nat}{a':Act}{w':World}(h:Pnd P ops ps Hh U s0 ι f a w c B)(hg:Go1 ι (hp (Hh f).h) w ι' (hp (Hh f').h) (Hh f').nx w')(ha:∀d oc,ops[c]?=some oc→oc.dst=some d→a'.tmps.getD d undef=a.tmps.getD d undef):Pnd P ops ps Hh U s0 ι' f' a' w' c B:=by
 obtain⟨o',Bk,t,l,n,mk,us,h1,h2,h3,h4,h5,h6,h7,h8,h9,h10,h11⟩:=h;have hlt:B<w.heap.size:=(Array.getElem?_eq_some_iff.1 h7).1;refine⟨o',Bk,t,l,n,mk,us,h1,h2,h3,h4,h5,h6,by rw[hg.keep B hlt h11];exact h7,h8.mono hg.le,fun d hd=>by rw[ha d o' h1 hd];exact h9 d hd,h10,fun ho=>?_⟩;rcases hg.own B ho with q|q
 ·exact h11 q
 ·omega
theorem Pre.after(C:PlC ops bef ps pl)(I:Pre P ops bef ps pl Th Hh U N ι0 w0 D Ld Bf a w ι f){j f':Nat}{oj:Oper}(hj:ops[j]?=some oj)(hjl:¬Ld j)(hb:∀k,bef k j→Ld k)(hd:dOk N oj.dst=true){v:Value}{w':World}(hv:RV ι' (U (ps j)) v)(hr:HR ι' (Hh f') w')(hg:Go1 ι (hp (Hh f).h) w ι' (hp (Hh f').h) (Hh f').nx w')
 (h1:f≤f') (h2:f'≤pl.length) (h3:∀c,Chn ops c→ps c<f'→Ld c∨c=j) (h4:∀c,Chn ops c→Ld c→f≤ps c→f'≤ps c) (h5:Chn ops j→ps j<f') (h6:∀q,q≤f'→Wf (Hh q)):Pre P ops bef ps pl Th Hh U N ι0 w0 D (fun k=>Ld k∨k=j) Bf (a.put oj.dst v) w' ι' f':=by
 have hne:∀(k:Nat) (ok:Oper) t,ops[k]?=some ok→ok.dst=some t→k≠j→(a.put oj.dst v).tmps.getD t undef=a.tmps.getD t undef:=fun k ok t k1 k2 k3=>getD_put a oj.dst v t fun y hy q=>k3 (C.dup k ok j oj t k1 hj k2 (by rw[hy,q]));refine⟨fun i k hi hk=>?_,h2,h3,hr,I.gl.le hg.le,I.go.trans hg,by rw[put_size];exact I.ts,by rw[put_defers];exact I.df,fun t ht=>?_,fun k ok t k1 k2 k3 k4=>?_,fun c hc hf hl=>?_,fun c c' hc hc' hf hf' hl hl'=>?_,h6,I.sn⟩
 ·rcases hi with hi|rfl
  ·exact .inl (I.cl i k hi hk)
  ·exact .inl (hb k hk)
 ·rw[getD_put a oj.dst v t fun y hy q=>ht j oj hj (by rw[hy,q]) (.inr rfl)];exact(I.old t fun k ok k1 k2 k3=>ht k ok k1 k2 (.inl k3)).mono hg.le
 ·by_cases e:k=j
  ·subst e;rw[hj]at k1;cases k1;rw[k2,getD_put_same a t v (by rw[I.ts];exact dOk_lt hd k2)];exact hv
  ·rw[hne k ok t k1 k2 e];have hlk:Ld k:=k3.resolve_right e;refine(I.new k ok t k1 k2 hlk ?_).mono hg.le;rcases k4 with k4|k4
   ·exact .inl k4
   ·by_cases hk2:kOp cvT ok.op=2
    ·right
     refine Classical.byContradiction fun hge=>?_;have:=h4 k ⟨ok,k1,by omega⟩ hlk (by omega);omega
    ·exact .inl hk2
 ·have hcj:c≠j:=fun q=>by subst q;have:=h5 hc;omega
  have hlc:Ld c:=hl.resolve_right hcj;exact(I.pnd c hc (by omega) hlc).keep hg fun d oc k1 k2=>hne c oc d k1 k2 hcj
 ·have hcj:c≠j:=fun q=>by subst q;have:=h5 hc;omega
  have hcj':c'≠j:=fun q=>by subst q;have:=h5 hc';omega
  exact I.inj c c' hc hc' (by omega) (by omega) (hl.resolve_right hcj) (hl'.resolve_right hcj')
end
end Go.Proofs.YtglihimiidiacaaGreatDoor.Ev8
namespace Go.Proofs.YtglihimiidiacaaGreatDoor.Ev8
open Go
variable {P:Program} {ι ι':Io} {F:Fence}
section
variable {ops:Array Oper} {bef:Nat→Nat→Prop} {ps:Nat→Nat} {pl:List (Nat×Bool)} {Th:Nat→Te} {Hh:Nat→HS} {U:Nat→AV}
variable {N:Nat} {ι0:Io} {w0:World} {D:List Deferred} {Ld:Nat→Prop} {Bf:Nat→Nat} {a:Act} {w:World} {f:Nat}
def Inv(P:Program)(ops:Array Oper)(bef:Nat→Nat→Prop)(ps:Nat→Nat)(pl:List (Nat×Bool))(Th:Nat→Te)(Hh:Nat→HS)(U:Nat→AV)(N:Nat)(ι0:Io)(w0:World)(D:List Deferred)(Ld:Nat→Prop)(a:Act)(w:World):Prop:=∃Bf ι f,Pre P ops bef ps pl Th Hh U N ι0 w0 D Ld Bf a w ι f∧Nxt ops ps Ld f
theorem pure_at(C:PlC ops bef ps pl)(T:TrF F P ops pl Th Hh U){j:Nat}{oj:Oper}(hj:ops[j]?=some oj)(hk:kOp cvT oj.op=0)(H:HS):GStep F P ops.toList (Th (ps j)) H oj (U (ps j)) H:=by
 have hlt:j<ops.size:=(Array.getElem?_eq_some_iff.1 hj).1;have h:=(T.opF _ j oj (C.at_ j hlt) hj).1;unfold GStep at h ⊢;cases hg:oj.guard with
 |none=>
  rw[hg]at h;unfold KStep at h ⊢;rw[hk]at h ⊢;exact⟨rfl,h.2⟩
 |some g=>
  rw[hg]at h;obtain⟨og,t,h1,h2,h3⟩:=h;refine⟨og,t,h1,h2,?_⟩;rcases h3 with⟨e1,h4⟩|⟨e1,e2,-⟩
  ·refine .inl ⟨e1,?_⟩;unfold KStep at h4 ⊢;rw[hk]at h4 ⊢;exact⟨rfl,h4.2⟩
  ·exact .inr ⟨e1,e2,rfl⟩
theorem step_inv(hF:WF F)(C:PlC ops bef ps pl)(T:TrF F P ops pl Th Hh U)(hops:∀(j:Nat) (oj:Oper),ops[j]?=some oj→dOk N oj.dst=true∧opOk oj=true)(I:Inv P ops bef ps pl Th Hh U N ι0 w0 D Ld a w){j:Nat}{oj:Oper}(hj:ops[j]?=some oj)(hjl:¬Ld j)(hb:∀k,bef k j→Ld k){Q:Exit→Act→World→Prop}:
 wpOpIn F 0 P ops Q j (fun a' w'=>Inv P ops bef ps pl Th Hh U N ι0 w0 D (fun k=>Ld k∨k=j) a' w') a w:=by
 obtain⟨Bf,ι,f,I,hn⟩:=I;obtain⟨hd,hok⟩:=hops j oj hj;have hlt:j<ops.size:=(Array.getElem?_eq_some_iff.1 hj).1;have hpl:=ps_lt C hlt;obtain⟨hO,hG⟩:=I.see C T hn hj hjl hb hok;by_cases hk2:kOp cvT oj.op<2
 ·have hG2:GStep F P ops.toList (Th (ps j)) (Hh f) oj (U (ps j)) (Hh f):=by
   by_cases h0:kOp cvT oj.op=0
   ·exact pure_at C T hj h0 _
   ·have h1:kOp cvT oj.op=1:=by omega
    have hcov:∀c,Chn ops c→ps c<ps j→ps c<f:=fun c hc hp=>Classical.byContradiction fun hge=>by
     have hbc:=C.chn j oj hj (.inl h1) c hc hp;obtain⟨c',g1,g2,g3,g4⟩:=hn c hc (by omega) (hb c hbc);exact g4 (hb c' (C.chn j oj hj (.inl h1) c' g1 (by omega)))
    rcases Nat.le_total f (ps j) with h|h
    ·have:=hh_range C T h (Nat.le_of_lt hpl) fun c hc hh=>by have:=hcov c hc hh.2;omega
     rw[←this];exact(load_parts C T hj h1).1
    ·exact load_at C T hj h1 h I.fl (fun c hc q1 q2 q3=>hjl (I.cl c j (I.fr c hc q2) q3)) I.wf
  refine gstep_wp hF hG2 (fun j oj hj=>(hops j oj hj).1) I.ts I.hr hO hG hj fun v w' ι' g1 g2 g3=>?_;have hnc:¬Chn ops j:=fun⟨o,h1,h2⟩=>by rw[hj]at h1;cases h1;omega
  refine⟨Bf,ι',f,I.after C hj hjl hb hd g1 g2 g3 (Nat.le_refl _) I.fl (fun c hc hp=>.inl (I.fr c hc hp)) (fun _ _ _ h=>h) (fun h=>absurd h hnc) I.wf,fun c hc hf hl=>?_⟩;have hcj:c≠j:=fun q=>hnc (q▸hc);obtain⟨c',k1,k2,k3,k4⟩:=hn c hc hf (hl.resolve_right hcj);exact⟨c',k1,k2,k3,fun q=>q.elim k4 fun q=>hnc (q▸k1)⟩
 ·have hch:Chn ops j:=⟨oj,hj,by omega⟩;have hfj:f≤ps j:=Nat.le_of_not_lt fun h=>hjl (I.fr j hch h);by_cases hall:∀c,Chn ops c→ps c<ps j→Ld c
  ·have hno:∀c,Chn ops c→¬(f≤ps c∧ps c<ps j):=fun c hc hh=>by
    obtain⟨c',g1,g2,g3,g4⟩:=hn c hc hh.1 (hall c hc hh.2);exact g4 (hall c' g1 (by omega))
   have hs:=hh_range C T hfj (Nat.le_of_lt hpl) hno;have hst:=(T.opF _ j oj (C.at_ j hlt) hj).1;rw[hs]at hst;refine gstep_wp hF hst (fun j oj hj=>(hops j oj hj).1) I.ts I.hr hO hG hj fun v w' ι' g1 g2 g3=>?_;have I':=I.after C hj hjl hb hd g1 g2 g3 (by omega) (by omega) (fun c hc hp=>by
    rcases Nat.lt_or_ge (ps c) (ps j) with h|h
    ·exact .inl (hall c hc h)
    ·obtain⟨oc,k1,-⟩:=hc;exact .inr (ps_inj C k1 hj (by omega))) (fun c hc hl hf=>by
    have:=hno c hc;obtain⟨oc,k1,-⟩:=hc;have hne:ps c≠ps j:=fun q=>hjl (ps_inj C k1 hj q▸hl);omega) (fun _=>by omega) (fun q hq=>by
    rcases Nat.lt_or_ge q (ps j+1) with h|h
    ·by_cases h':q≤f
     ·exact I.wf q h'
     ·have:Hh q=Hh f:=hh_range C T (by omega) (by omega) fun c hc hh=>hno c hc ⟨hh.1,by omega⟩;rw[this];exact I.wf f (Nat.le_refl _)
    ·have:q=ps j+1:=by omega
     rw[this];exact g2.wf)
   obtain⟨ι2,f2,I2,n2⟩:=I'.norm C T _ (Nat.le_refl _);exact⟨Bf,ι2,f2,I2,n2⟩
  ·simp only[Classical.not_forall]at hall;obtain⟨c0,hc0,hp0,hl0⟩:=hall;have hnb:¬bef c0 j:=fun q=>hl0 (hb c0 q);have hkj:kOp cvT oj.op=2:=by
    have:=kOp_le oj.op;rcases Nat.lt_or_ge (kOp cvT oj.op) 3 with h|h
    ·omega
    ·exact absurd (C.chn j oj hj (.inr (by omega)) c0 hc0 hp0) hnb
   have hgn:oj.guard=none:=(C.erl j oj hj hkj).resolve_right fun q=>hnb (q c0 hc0 hp0);have hst:=(T.opF _ j oj (C.at_ j hlt) hj).1;unfold GStep at hst;rw[hgn]at hst;unfold KStep at hst;rw[hkj]at hst;obtain⟨Bk,t,l,n,mk,e1,e2,e3,e4,e5⟩:=hst;obtain⟨us,r1,r2⟩:=e5 ι a w hO;have hdf:∀c,oj.op≠.defer c:=kOp_df (by rw[hkj];simp);unfold wpOpIn;simp only[hj];rw[if_pos (want_none hgn)];refine⟨fun f _=>hF.fn f,?_⟩;rw[Oper.semAt_eq _ _ _ hdf,r1,Oper.uponIn_value];generalize hw1:({w with heap:=w.heap.push (.cells us.toArray t)}:World)=w1;have hw1':w1.heap=w.heap.push (.cells us.toArray t):=by rw[←hw1]
   have hg1:=Go1.push I.hr.rel hw1' (by rw[←hw1];exact⟨rfl,rfl,rfl⟩);have hr1:HR ι (Hh f) w1:=⟨hg1.rel,I.hr.ok,I.hr.nx,I.hr.gl,I.hr.sn.go hg1⟩;have hne:∀(k:Nat) (ok:Oper) t',ops[k]?=some ok→ok.dst=some t'→k≠j→(a.put oj.dst (mk w.heap.size)).tmps.getD t' undef=a.tmps.getD t' undef:=fun k ok t' k1 k2 k3=>getD_put a oj.dst _ t' fun y hy q=>k3 (C.dup k ok j oj t' k1 hj k2 (by rw[hy,q]));have hpk:∀c,Chn ops c→f≤ps c→Ld c→c≠j∧Bf c<w.heap.size:=fun c hc hf hl=>⟨fun q=>hjl (q▸hl),by
    obtain⟨_,_,_,_,_,_,_,_,_,_,_,_,_,h7,_⟩:=I.pnd c hc hf hl;exact(Array.getElem?_eq_some_iff.1 h7).1⟩
   refine⟨upd Bf j w.heap.size,ι,f,⟨fun i k hi hk=>?_,I.fl,fun c hc hp=>.inl (I.fr c hc hp),hr1,I.gl,I.go.trans hg1,by rw[put_size];exact I.ts,by rw[put_defers];exact I.df,fun t' ht'=>?_,fun k ok t' k1 k2 k3 k4=>?_,fun c hc hf hl=>?_,fun c c' hc hc' hf hf' hl hl' he=>?_,I.wf,I.sn⟩,fun c hc hf hl=>?_⟩
   ·rcases hi with hi|rfl
    ·exact .inl (I.cl i k hi hk)
    ·exact .inl (hb k hk)
   ·rw[getD_put a oj.dst _ t' fun y hy q=>ht' j oj hj (by rw[hy,q]) (.inr rfl)];exact I.old t' fun k ok k1 k2 k3=>ht' k ok k1 k2 (.inl k3)
   ·by_cases e:k=j
    ·subst e;rw[hj]at k1;cases k1;rcases k4 with k4|k4
     ·exact absurd hkj k4
     ·omega
    ·rw[hne k ok t' k1 k2 e];exact I.new k ok t' k1 k2 (k3.resolve_right e) k4
   ·by_cases e:c=j
    ·subst e;rw[upd_same];refine⟨oj,Bk,t,l,n,mk,us,hj,hkj,e1,e2,e3,e4,by rw[hw1'];simp,r2,fun d hdd=>?_,I.go.size,fun⟨b,E,d1,d2,d3⟩=>?_⟩
     ·rw[hdd,getD_put_same a d _ (by rw[I.ts];exact dOk_lt hd hdd)]
     ·have:=I.hr.rel.inn b E d2;omega
    ·rw[upd_ne _ e];exact(I.pnd c hc hf (hl.resolve_right e)).keep hg1 fun d oc k1 k2=>hne c oc d k1 k2 e
   ·by_cases e:c=j
    ·by_cases e':c'=j
     ·rw[e,e']
     ·exfalso;have:=(hpk c' hc' hf' (hl'.resolve_right e')).2;rw[e,upd_same,upd_ne _ e']at he;omega
    ·by_cases e':c'=j
     ·exfalso;have:=(hpk c hc hf (hl.resolve_right e)).2;rw[e',upd_same,upd_ne _ e]at he;omega
     ·rw[upd_ne _ e,upd_ne _ e']at he;exact I.inj c c' hc hc' hf hf' (hl.resolve_right e) (hl'.resolve_right e') he
   ·rcases hl with hl|rfl
    ·obtain⟨c',k1,k2,k3,k4⟩:=hn c hc hf hl;by_cases e:c'=j
     ·subst e;have hf0:f≤ps c0:=Nat.le_of_not_lt fun h=>hl0 (I.fr c0 hc0 h);exact⟨c0,hc0,hf0,by omega,fun q=>q.elim hl0 fun q=>by subst q;omega⟩
     ·exact⟨c',k1,k2,k3,fun q=>q.elim k4 e⟩
    ·have hf0:f≤ps c0:=Nat.le_of_not_lt fun h=>hl0 (I.fr c0 hc0 h);exact⟨c0,hc0,hf0,hp0,fun q=>q.elim hl0 fun q=>by subst q;omega⟩
end
end Go.Proofs.YtglihimiidiacaaGreatDoor.Ev8
namespace Go.Proofs.YtglihimiidiacaaGreatDoor.Ev8
open Go
variable {P:Program} {ι ι':Io} {F:Fence}
theorem HR.of_heap{H:HS}{w w':World}(h:HR ι H w)(hh:w'.heap=w.heap):HR ι H w':=⟨h.rel.of_heap hh,h.ok,h.nx,h.gl,h.sn.mk' fun _ _ _ _ e n=>⟨by rw[hh];exact e,n⟩⟩
def cnt(l:List Bool):Nat:=(l.filter fun b=>!b).length
theorem cnt_set:∀{l:List Bool} {j:Nat},l[j]?=some false→cnt (l.set j true)+1=cnt l
 |[],j,h=>by simp at h
 |b::l,0,h=>by simp only[List.getElem?_cons_zero,Option.some.injEq]at h;subst h;simp[cnt]
 |b::l,j+1,h=>by
  have:=cnt_set (l:=l) (j:=j) (by simpa using h);cases b<;>simp[cnt]at this ⊢<;>omega
theorem cnt_0:∀{l:List Bool},cnt l=0→∀(j:Nat) (b:Bool),l[j]?=some b→b=true
 |[],_,j,b,h=>by simp at h
 |c::l,hc,j,b,h=>by
  cases c with
  |false=>simp[cnt]at hc
  |true=>
   cases j with
   |zero=>simp only[List.getElem?_cons_zero,Option.some.injEq]at h;exact h.symm
   |succ j=>exact cnt_0 (l:=l) (by simpa[cnt]using hc) j b (by simpa using h)
section
variable {ops:Array Oper} {bef:Nat→Nat→Prop} {ps:Nat→Nat} {pl:List (Nat×Bool)} {Th:Nat→Te} {Hh:Nat→HS} {U:Nat→AV}
variable {N:Nat} {ι0:Io} {w0:World} {D:List Deferred} {Ld:Nat→Prop} {a:Act} {w:World}
theorem Inv.cong{Ld':Nat→Prop}(h:∀k,Ld' k↔Ld k)(I:Inv P ops bef ps pl Th Hh U N ι0 w0 D Ld a w):Inv P ops bef ps pl Th Hh U N ι0 w0 D Ld' a w:=by
 have:Ld'=Ld:=funext fun k=>propext (h k);rw[this];exact I
theorem Inv.done(C:PlC ops bef ps pl)(T:TrF F P ops pl Th Hh U)(I:Inv P ops bef ps pl Th Hh U N ι0 w0 D Ld a w)(hall:∀k,k<ops.size→Ld k):∃ι,SRl N ι (Th pl.length) (Hh pl.length) a w∧Go1 ι0 (hp (Hh 0).h) w0 ι (hp (Hh pl.length).h) (Hh pl.length).nx w∧a.defers=D:=by
 obtain⟨Bf,ι,f,I,hn⟩:=I;have hcl:∀c,Chn ops c→Ld c:=fun c ⟨o,h,_⟩=>hall c (Array.getElem?_eq_some_iff.1 h).1;have hno:∀c,Chn ops c→¬(f≤ps c):=fun c hc hf=>by
  obtain⟨c',k1,k2,k3,k4⟩:=hn c hc hf (hcl c hc);exact k4 (hcl c' k1)
 have hs:Hh pl.length=Hh f:=hh_range C T I.fl (Nat.le_refl _) fun c hc hh=>hno c hc hh.1;rw[hs];refine⟨ι,⟨I.hr,fun t=>?_,I.gl,I.ts⟩,I.go,I.df⟩;by_cases he:∃(k:Nat) (ok:Oper),ops[k]?=some ok∧ok.dst=some t
 ·obtain⟨k,ok,h1,h2⟩:=he;have hlt:k<ops.size:=(Array.getElem?_eq_some_iff.1 h1).1;rw[th_new C T (Nat.le_refl _) h1 h2 (ps_lt C hlt)];refine I.new k ok t h1 h2 (hall k hlt) ?_;by_cases hk:kOp cvT ok.op=2
  ·exact .inr (Nat.lt_of_not_le (hno k ⟨ok,h1,by omega⟩))
  ·exact .inl hk
 ·rw[th_old C T (Nat.le_refl _) fun k ok h1 h2=>absurd ⟨k,ok,h1,h2⟩ he];exact I.old t fun k ok h1 h2=>absurd ⟨k,ok,h1,h2⟩ he
theorem any_ok(hF:WF F)(C:PlC ops bef ps pl)(T:TrF F P ops pl Th Hh U)(hops:∀(j:Nat) (oj:Oper),ops[j]?=some oj→dOk N oj.dst=true∧opOk oj=true){Q:Exit→Act→World→Prop}(hQ:∀a' w',Inv P ops bef ps pl Th Hh U N ι0 w0 D (fun _=>True) a' w'→Q .normal a' w'):
 ∀(fuel:Nat) (listed:Array Bool) (a:Act) (w:World),listed.size=ops.size→cnt listed.toList=fuel→Inv P ops bef ps pl Th Hh U N ι0 w0 D (fun k=>ops.size≤k∨listed.getD k false=true) a w→wpAnyIn F 0 P .any ops Q fuel listed a w:=by
 intro fuel;have fin:∀(listed:Array Bool) (a:Act) (w:World),listed.size=ops.size→(∀k,k<ops.size→listed.getD k false=true)→Inv P ops bef ps pl Th Hh U N ι0 w0 D (fun k=>ops.size≤k∨listed.getD k false=true) a w→Q .normal a w:=fun listed a w _ hall I=>hQ a w (I.cong fun k=>⟨fun _=>by
  rcases Nat.lt_or_ge k ops.size with h|h
  ·exact .inr (hall k h)
  ·exact .inl h,fun _=>trivial⟩)
 induction fuel with
 |zero=>
  intro listed a w hs hc I;have hall:∀k,k<ops.size→listed.getD k false=true:=fun k hk=>by
   have hk':k<listed.size:=by omega
   have:=cnt_0 hc k listed[k] (by simp[hk']);simp[hk',this]
  refine⟨?_,fin listed a w hs hall I⟩;apply List.eq_nil_iff_forall_not_mem.2;intro j hj;obtain⟨h1,o,h2,-⟩:=mem_ready.1 hj;have hlt:j<ops.size:=(Array.getElem?_eq_some_iff.1 h2).1;have:=hall j hlt;have hk':j<listed.size:=by omega
  simp[hk']at h1 this;rw[h1]at this;cases this
 |succ fuel ih=>
  intro listed a w hs hc I;refine⟨fun hnil=>?_,fun j hj=>?_⟩
  ·refine fin listed a w hs (fun k hk=>?_) I;have key:∀n k,k<n→k<ops.size→listed.getD k false=true:=by
    intro n;induction n with
    |zero=>intro k h;omega
    |succ n ihn=>
     intro k hkn hk;rcases Nat.lt_or_ge k n with h|h
     ·exact ihn k h hk
     ·have hkn':k=n:=by omega
      subst hkn';have hk':k<listed.size:=by omega
      cases hb:listed.getD k false with
      |true=>rfl
      |false=>
       exfalso;have:k∈Region.ready .any ops listed:=mem_ready.2 ⟨by simp[hk']at hb ⊢;exact hb,ops[k],Array.getElem?_eq_getElem hk,fun e he hbb=>by
        obtain⟨h1,h2⟩:=C.edg k _ (Array.getElem?_eq_getElem hk) e he hbb;exact ihn e.on h2 (by omega)⟩
       rw[hnil]at this;cases this
   exact key (k+1) k (by omega) hk
  ·obtain⟨h1,o,h2,h3⟩:=mem_ready.1 hj;have hlt:j<ops.size:=(Array.getElem?_eq_some_iff.1 h2).1;have hk':j<listed.size:=by omega
   have hjl:¬(ops.size≤j∨listed.getD j false=true):=fun q=>by
    rcases q with q|q
    ·omega
    ·simp[hk']at h1 q;rw[h1]at q;cases q
   have hcl:∀i k,(ops.size≤i∨listed.getD i false=true)→bef k i→(ops.size≤k∨listed.getD k false=true):=by
    obtain⟨Bf,ι,f,I',-⟩:=I;exact I'.cl
   have hb:∀k,bef k j→(ops.size≤k∨listed.getD k false=true):=fun k hk=>by
    obtain⟨e,he,hbb,hk2⟩:=C.hul k j o h2 hk;rcases hk2 with rfl|hk2
    ·exact .inr (h3 e he hbb)
    ·exact hcl e.on k (.inr (h3 e he hbb)) hk2
   refine wpOpIn_mono (fun a' w' I'=>ih (listed.setIfInBounds j true) a' w' (by simpa using hs) ?_ (I'.cong fun k=>?_)) (step_inv hF C T hops I h2 hjl hb)
   ·have:cnt (listed.toList.set j true)+1=cnt listed.toList:=cnt_set (by simp[hk']at h1 ⊢;exact h1);rw[Array.toList_setIfInBounds];omega
   ·by_cases e:j=k
    ·subst e;simp[hk']
    ·rw[getD_set_ne false e];constructor
     ·rintro(h|h)
      ·exact .inl (.inl h)
      ·exact .inl (.inr h)
     ·rintro((h|h)|h)
      ·exact .inl h
      ·exact .inr h
      ·exact absurd h.symm e
theorem drawn_ok(hF:WF F)(hm:P.follows .mixedOrders=true)(C:PlC ops bef ps pl)(T:TrF F P ops pl Th Hh U)(hops:∀(j:Nat) (oj:Oper),ops[j]?=some oj→dOk N oj.dst=true∧opOk oj=true){Q:Exit→Act→World→Prop}{id:Nat}(hs:SRl N ι (Th 0) (Hh 0) a w)(hbb:∀k i,bef k i→i<ops.size)
 (hQ:∀ι' a' w',SRl N ι' (Th pl.length) (Hh pl.length) a' w'→Go1 ι (hp (Hh 0).h) w ι' (hp (Hh pl.length).h) (Hh pl.length).nx w'→a'.defers=a.defers→Q .normal a' w'):(Code.region id ops true).wpIn F 0 P Q a w:=by
 refine wpIn_region_any hm ?_;have hr1:HR ι (Hh 0) {w with drawn:=w.drawn+1}:=hs.hr.of_heap rfl;have hg0:Go1 ι (hp (Hh 0).h) w ι (hp (Hh 0).h) (Hh 0).nx {w with drawn:=w.drawn+1}:=Go1.of_heap hs.hr.rel rfl;refine any_ok (ι0:=ι) (w0:={w with drawn:=w.drawn+1}) (D:=a.defers) hF C T hops (fun a' w' I=>?_) ops.size _ a _ (by simp) (by simp[cnt]) ⟨fun _=>0,ι,0,⟨fun i k hi hk=>?_,Nat.zero_le _,fun c _ h=>absurd h (by omega),hr1,hs.gl,Go1.refl hr1.rel,hs.sz,rfl,fun t _=>hs.tr t,fun k ok t k1 _ k3 _=>?_,fun c hc _ hl=>?_,fun c c' hc _ _ _ hl _ _=>?_,fun q hq=>?_,hr1.sn⟩,fun c hc _ hl=>?_⟩
 ·obtain⟨ι',g1,g2,g3⟩:=I.done C T fun _ _=>trivial;exact hQ ι' a' w' g1 (hg0.trans g2) g3
 ·exfalso;have hlt:=hbb k i hk;rcases hi with h|h
  ·omega
  ·simp[hlt]at h
 ·exfalso;have hlt:k<ops.size:=(Array.getElem?_eq_some_iff.1 k1).1;rcases k3 with h|h
  ·omega
  ·simp[hlt]at h
 ·exfalso;obtain⟨oc,k1,-⟩:=hc;have hlt:c<ops.size:=(Array.getElem?_eq_some_iff.1 k1).1;rcases hl with h|h
  ·omega
  ·simp[hlt]at h
 ·exfalso;obtain⟨oc,k1,-⟩:=hc;have hlt:c<ops.size:=(Array.getElem?_eq_some_iff.1 k1).1;rcases hl with h|h
  ·omega
  ·simp[hlt]at h
 ·have:q=0:=by omega
  subst this;exact hs.hr.wf
 ·exfalso;obtain⟨oc,k1,-⟩:=hc;have hlt:c<ops.size:=(Array.getElem?_eq_some_iff.1 k1).1;rcases hl with h|h
  ·omega
  ·simp[hlt]at h
end
end Go.Proofs.YtglihimiidiacaaGreatDoor.Ev8
namespace Go.Proofs.YtglihimiidiacaaGreatDoor.Ev8
open Go
theorem sub_bit{a b k:Nat}(h:sub a b=true)(hk:a.testBit k=true):b.testBit k=true:=by
 have h1:a &&& b=a:=Nat.eq_of_beq_eq_true h;have h2:(a &&& b).testBit k=true:=by rw[h1];exact hk
 rw[Nat.testBit_and]at h2;exact(and_ok h2).2
theorem bit_or(a b k:Nat):(Nat.lor a b).testBit k=(a.testBit k||b.testBit k):=Nat.testBit_or a b k
theorem bit_of(i k:Nat):(bitOf i).testBit k=decide (i=k):=Nat.testBit_two_pow
theorem bit_xor(a b k:Nat):(Nat.xor a b).testBit k=((a.testBit k) ^^ (b.testBit k)):=Nat.testBit_xor a b k
def befE(acc:List Nat)(m:Option Nat)(e:Edge):Option Nat:=match m,e.ground with
 |none,_=>none
 |some m,.textOnly _|some m,.gcOnly _=>some m
 |some m,_=>match acc[e.on]? with|some q=>some (Nat.lor m (Nat.lor q (bitOf e.on)))|none=>none
theorem befE_none(acc:List Nat)(e:Edge):befE acc none e=none:=rfl
theorem befE_some{acc:List Nat}{m m':Nat}{e:Edge}(h:befE acc (some m) e=some m'):(Region.binds .any e=false∧m'=m)∨(Region.binds .any e=true∧∃q,acc[e.on]?=some q∧m'=Nat.lor m (Nat.lor q (bitOf e.on))):=by
 unfold befE at h;unfold Region.binds;split at h
 ·cases ‹(some m)=none›
 ·rename_i hg;cases h;cases ‹some _=some _›;left;rw[hg];exact⟨rfl,rfl⟩
 ·rename_i hg;cases h;cases ‹some _=some _›;left;rw[hg];exact⟨rfl,rfl⟩
 ·rename_i hs hn1 hn2
  cases hs;right
  split at h
  ·rename_i q hq
   cases h;refine⟨?_,q,hq,rfl⟩;split
   ·rename_i hg;exact absurd hg (hn1 _)
   ·rename_i hg;exact absurd hg (hn2 _)
   ·rfl
  ·cases h
theorem fold_none(acc:List Nat):∀es:List Edge,es.foldl (befE acc) none=none
 |[]=>rfl
 |_e::es=>fold_none acc es
theorem fold_bef(acc:List Nat):∀(es:List Edge) (m0 m:Nat),es.foldl (befE acc) (some m0)=some m→(∀k,m0.testBit k=true→m.testBit k=true)∧
 (∀e∈es,Region.binds .any e=true→∃q,acc[e.on]?=some q∧m.testBit e.on=true)∧(∀k,m.testBit k=true→m0.testBit k=true∨∃e∈es,Region.binds .any e=true∧∃q,acc[e.on]?=some q∧(k=e.on∨q.testBit k=true))
 |[],m0,m,h=>by cases h;exact⟨fun k h=>h,fun e he=>(by cases he),fun k h=>.inl h⟩
 |e::es,m0,m,h=>by
  change es.foldl (befE acc) (befE acc (some m0) e)=some m at h;cases hb:befE acc (some m0) e with
  |none=>rw[hb,fold_none]at h;cases h
  |some m1=>
   rw[hb]at h;obtain⟨h1,h2,h3⟩:=fold_bef acc es m1 m h;rcases befE_some hb with⟨k1,rfl⟩|⟨k1,q,k2,rfl⟩
   ·refine⟨h1,fun e' he' hb'=>?_,fun k hk=>?_⟩
    ·rcases List.mem_cons.1 he' with rfl|he'
     ·rw[k1]at hb';cases hb'
     ·exact h2 e' he' hb'
    ·rcases h3 k hk with h|⟨e',a1,a2⟩
     ·exact .inl h
     ·exact .inr ⟨e',List.mem_cons_of_mem _ a1,a2⟩
   ·refine⟨fun k hk=>h1 k (by rw[bit_or,hk];rfl),fun e' he' hb'=>?_,fun k hk=>?_⟩
    ·rcases List.mem_cons.1 he' with rfl|he'
     ·exact⟨q,k2,h1 _ (by simp[bit_of])⟩
     ·exact h2 e' he' hb'
    ·rcases h3 k hk with h|⟨e',a1,a2⟩
     ·simp only[bit_or,bit_of,Bool.or_eq_true,decide_eq_true_eq]at h;rcases h with h|h|h
      ·exact .inl h
      ·exact .inr ⟨e,List.mem_cons_self ..,k1,q,k2,.inr h⟩
      ·exact .inr ⟨e,List.mem_cons_self ..,k1,q,k2,.inl h.symm⟩
     ·exact .inr ⟨e',List.mem_cons_of_mem _ a1,a2⟩
def BfO(bs:List Nat)(i:Nat)(o:Oper)(m:Nat):Prop:=(∀e∈o.after,Region.binds .any e=true→e.on<i∧m.testBit e.on=true)∧∀k,m.testBit k=true→∃e∈o.after,Region.binds .any e=true∧(k=e.on∨∃q,bs[e.on]?=some q∧q.testBit k=true)
theorem befs_ok:∀(l:List Oper) (acc bs:List Nat),befs l acc=some bs→∃tl,bs=acc++tl∧tl.length=l.length∧∀i o,l[i]?=some o→∃m,tl[i]?=some m∧BfO bs (acc.length+i) o m
 |[],acc,bs,h=>by cases h;exact⟨[],by simp,rfl,fun i o h=>by simp at h⟩
 |o::l,acc,bs,h=>by
  have h':(match o.after.toList.foldl (befE acc) (some 0) with|some m=>befs l (acc++[m])|none=>none)=some bs:=h;cases hm:o.after.toList.foldl (befE acc) (some 0) with
  |none=>rw[hm]at h';cases h'
  |some m=>
   rw[hm]at h';obtain⟨tl,h1,h2,h3⟩:=befs_ok l (acc++[m]) bs h';refine⟨m::tl,by rw[h1];simp,by simp[h2],fun i o' ho=>?_⟩;cases i with
   |zero=>
    simp only[List.getElem?_cons_zero,Option.some.injEq]at ho;subst ho;obtain⟨-,g2,g3⟩:=fold_bef acc _ 0 m hm;have hq:∀j q,acc[j]?=some q→bs[j]?=some q:=fun j q hj=>by
     have hlt:=(List.getElem?_eq_some_iff.1 hj).1;rw[h1,List.append_assoc,List.getElem?_append_left hlt];exact hj
    refine⟨m,rfl,fun e he hb=>?_,fun k hk=>?_⟩
    ·obtain⟨q,e1,e2⟩:=g2 e (by simpa using he) hb;exact⟨by have:=(List.getElem?_eq_some_iff.1 e1).1;omega,e2⟩
    ·rcases g3 k hk with h|⟨e,e1,e2,q,e3,e4⟩
     ·simp at h
     ·refine⟨e,by simpa using e1,e2,?_⟩;rcases e4 with e4|e4
      ·exact .inl e4
      ·exact .inr ⟨q,hq _ _ e3,e4⟩
   |succ i=>
    obtain⟨m',e1,e2⟩:=h3 i o' (by simpa using ho);refine⟨m',by simpa using e1,?_⟩;have:(acc++[m]).length+i=acc.length+(i+1):=by simp;omega
    rw[←this];exact e2
theorem any_beq{a:Nat}{l:List Nat}(h:(!(l.any fun b=>Nat.beq a b))=true):a∉l:=fun hm=>by
 have:l.any (fun b=>Nat.beq a b)=true:=List.any_eq_true.2 ⟨a,hm,Nat.beq_refl a⟩;rw[this]at h;cases h
theorem noDup_ok:∀{l:List Oper},noDup (l.filterMap (·.dst))=true→∀(i:Nat) (o:Oper) (j:Nat) (oj:Oper) (t:Tmp),l[i]?=some o→l[j]?=some oj→o.dst=some t→oj.dst=some t→i=j
 |[],_,i,o,j,oj,t,h,_,_,_=>by simp at h
 |o0::l,hd,i,o,j,oj,t,hi,hj,h1,h2=>by
  have mem:∀(i:Nat) (o:Oper) (t:Tmp),l[i]?=some o→o.dst=some t→t∈l.filterMap (·.dst):=fun i o t h1 h2=>List.mem_filterMap.2 ⟨o,List.mem_of_getElem? h1,h2⟩;cases hd0:o0.dst with
  |none=>
   have hd':noDup (l.filterMap (·.dst))=true:=by rw[List.filterMap_cons_none hd0]at hd;exact hd
   cases i with
   |zero=>simp at hi;subst hi;rw[hd0]at h1;cases h1
   |succ i=>
    cases j with
    |zero=>simp at hj;subst hj;rw[hd0]at h2;cases h2
    |succ j=>rw[noDup_ok hd' i o j oj t (by simpa using hi) (by simpa using hj) h1 h2]
  |some d=>
   rw[List.filterMap_cons_some hd0]at hd;have hd2:and (not ((l.filterMap (·.dst)).any fun b=>Nat.beq d b)) (noDup (l.filterMap (·.dst)))=true:=hd;obtain⟨k1,k2⟩:=and_ok hd2;cases i with
   |zero=>
    simp at hi;subst hi;rw[hd0]at h1;cases h1;cases j with
    |zero=>rfl
    |succ j=>exact absurd (mem j oj _ (by simpa using hj) h2) (any_beq k1)
   |succ i=>
    cases j with
    |zero=>simp at hj;subst hj;rw[hd0]at h2;cases h2;exact absurd (mem i o _ (by simpa using hi) h1) (any_beq k1)
    |succ j=>rw[noDup_ok k2 i o j oj t (by simpa using hi) (by simpa using hj) h1 h2]
theorem dstAt_ok{l:List Oper}(hd:noDup (l.filterMap (·.dst))=true){k:Nat}{ok:Oper}{t:Tmp}(hk:l[k]?=some ok)(ht:ok.dst=some t):dstAt l t=some k:=by
 cases h:dstAt l t with
 |none=>
  have:=List.findIdx?_eq_none_iff.1 h ok (List.mem_of_getElem? hk);simp[ht]at this
 |some j=>
  obtain⟨hj,h1,-⟩:=List.findIdx?_eq_some_iff_getElem.1 h;split at h1
  ·rename_i d hd'
   have:d=t:=Nat.eq_of_beq_eq_true h1;subst this;rw[noDup_ok hd j l[j] k ok _ (List.getElem?_eq_getElem hj) hk hd' ht]
  ·cases h1
end Go.Proofs.YtglihimiidiacaaGreatDoor.Ev8
