import Derived.Test.YtglihimiidiacaaGreatDoorEc
namespace Go.Proofs.YtglihimiidiacaaGreatDoor.Ev8
open Go
variable {P:Program} {ι:Io} {h:Hp} {nx:Nat} {w:World} {ev:Operand→Value} {o:Oper}
theorem eqTx_ok{l a:AV}(h:eqTx l a=true):∃g j,isTx g=true∧l=.cons (.r g j) .nil∧a=.r g j:=by
 unfold eqTx at h;split at h
 ·rename_i g j g' j'
  obtain⟨h1,h2⟩:=and_ok h;obtain⟨h3,h4⟩:=and_ok h1;have:=Nat.eq_of_beq_eq_true h3;subst this;have:=Nat.eq_of_beq_eq_true h4;subst this;exact⟨g,j,h2,rfl,rfl⟩
 ·cases h
theorem rd_cvO{s d e:TypeId}{x:Operand}(ho:o.op=.convert s d x)(hs:P.underlying s=some (.slice e))(he:P.underlying e=some (.int .u8))(hd:P.underlying d=some .string){B c:Nat}{sb:ByteArray}(hx:ev x=.slice (some ⟨B,0,none⟩) sb.size c)
 (hc:∀(i:Nat) (y:UInt8),sb.data[i]?=some y→w.cell? ⟨B,i,none⟩=some (.int .u8 y.toNat)) {r:AV} (hr:RV ι r (.string sb)):Rd P ι w ev o r:=by
 refine⟨.string sb,?_,hr⟩;have h4:(loadCells ⟨B,0,none⟩ sb.size).run P w=.ok ((sb.data.toList.map fun b=>(b.toNat:Int)).map (Value.int .u8)).toArray w:=by
  have:=run_loadCells_list (P:=P) w ⟨B,0,none⟩ ((sb.data.toList.map fun b=>(b.toNat:Int)).map (Value.int .u8)) fun j v hv=>by
   rw[Addr_add,Nat.zero_add];simp only[List.getElem?_map,Array.getElem?_toList]at hv;cases hq:sb.data[j]? with
   |none=>rw[hq]at hv;cases hv
   |some y=>
    rw[hq]at hv;simp only[Option.map_some,Option.some.injEq]at hv;rw[hc j y hq,←hv]
  rw[show((sb.data.toList.map fun b=>(b.toNat:Int)).map (Value.int .u8)).length=sb.size by rw[List.length_map,List.length_map,Array.length_toList];rfl]at this;exact this
 have h5:=run_bytesToString w ⟨B,0,none⟩ sb.size c _ h4;rw[foldl_push_byteCells]at h5;have h6:(convert s d (ev x)).run P w=.ok (.string sb) w:=by
  rw[hx,run_convert_bytes_string w s d e (some ⟨B,0,none⟩) sb.size c hs he hd,h5];congr 2
  show(⟨#[]++sb.data.toList.toArray⟩:ByteArray)=_;rw[Array.empty_append]
 simp only[execOp,ho,Sem.run_bind,h6,Result.andThen];rfl
theorem wr_apO{args:Array Operand}{ts:Array TypeId}{x y:Operand}(ho:o.op=.call {callee:=.builtin .append,args:=args,argTypes:=ts})(ha:args=#[x,y]){el:TypeId}{i:TypeInfo}{z:Value}(T:ApT P ts el i z)(hi:i.size=1)(hb:i.bytes≤1073741824)(hr:Rel ι h nx w)
 (hx:ev x=.slice none 0 0) {a:AV} {sb:ByteArray} (hy:ev y=.string sb) (hra:RV ι a (.string sb)) (h1:1≤sb.size) (h2:sb.size≤1000):Wr P ι h w ev o (.k 8 nx (.cons a .nil)) (upd h nx (.o a)) (nx+1):=by
 have hl:∀w,(Builtin.lenOf (ev y)).run P w=.ok sb.size w:=fun w=>by rw[hy];rfl
 have ho1:∀w',w'.heap=w.heap→(Builtin.firstCells i.size 0 (.slice none 0 0)).run P w'=.ok #[] w':=fun w' _=>by simp[Builtin.firstCells,go_sem]
 have hn1:∀w',w'.heap=w.heap→(Builtin.firstCells i.size sb.size (ev y)).run P w'=.ok (sb.data.map fun b=>Value.int .u8 b.toNat) w':=fun w' _=>by
  rw[hy,hi];simp only[Builtin.firstCells,Sem.run_pure];have:sb.extract 0 sb.size=sb:=by
   apply ByteArray.ext;rw[ByteArray.data_extract];show sb.data.extract 0 sb.data.size=sb.data;simp
  rw[this]
 have hbb:(0+sb.size)*i.bytes≤140737488355328:=by
  have:(0+sb.size)*i.bytes≤1000*1073741824:=Nat.mul_le_mul (by omega) hb;omega
 obtain⟨newCap,w',g1,g2,g3,he⟩:=run_grow (ty:=o.type) T hl ho1 hn1 (by omega) hbb (by rw[show IntKind.i64.max=9223372036854775807 from rfl];omega);rw[Nat.zero_add]at g1 g2;have hg:=hr.lay (w':=w') (E:=⟨w.heap.size,0,newCap,0⟩) (s:=.o a) rfl (by rw[g3];simp) (fun B hB=>by rw[g3,Array.getElem?_push_lt hB,Array.getElem?_eq_getElem hB]) ⟨_,el,(0,0),sb,by rw[g3];exact Array.getElem?_push_size,?_,?_⟩ he
 ·refine⟨_,w',_,_,ap_args ho ha (by rw[hx];exact g2),.inl rfl,?_,hg⟩;exact⟨[.string sb],⟨_,[],rfl,hra.mono hg.le,rfl⟩,_,sb,upd_same _ _ _,rfl,rfl⟩
 ·refine hra.mono fun b e hb=>?_;by_cases q:b=nx
  ·subst q;rw[hr.new b (Nat.le_refl _)]at hb;cases hb
  ·rwa[upd_ne _ q]
 ·intro j y hj;have hlt:j<sb.data.size:=(Array.getElem?_eq_some_iff.1 hj).1;rw[Array.empty_append,Array.getElem?_append_left (by simpa using hlt),Array.getElem?_map,hj];rfl
end Go.Proofs.YtglihimiidiacaaGreatDoor.Ev8
namespace Go.Proofs.YtglihimiidiacaaGreatDoor.Ev8
open Go
variable {P:Program} {ι ι':Io}
theorem kN_inj{a b:IntKind}(h:kN a=kN b):a=b:=by cases a<;>cases b<;>first|rfl|(simp[kN]at h)
theorem oG_ok{C:AV→Res}{v:Option AV}{R:Res}(h:oG C v=R)(hR:R≠.fail):∃u,v=some u∧C u=R:=by
 cases v with
 |none=>exact absurd h.symm hR
 |some u=>exact⟨u,rfl,(fV_ok h hR).1⟩
theorem selI_o(op:BinOp):(selI op).o=op:=by cases op<;>rfl
theorem ok_binI{o:Oper}{s:Sx}{op:BinOp}{t u:TypeId}{x y:Operand}(ho:o.op=.binOp op t x y u):OpR P o s fun k=>⟨binIF (selI op) (opd s x) (opd s y) k⟩:=by
 intro K X e tm H θ R hO hR h;change bi0 (selI op) (fun v=>K.f X (.c v e) tm H) _ _=R at h;cases hp:(opd s x).f e tm with
 |i q n=>
  rw[hp]at h;cases hq:(opd s y).f e tm with
  |i q2 m=>
   rw[hq]at h;obtain⟨c1,h1⟩:=tst hR h;have hk:q=q2:=kN_inj (Nat.eq_of_beq_eq_true c1);subst hk;obtain⟨u',h2,h3⟩:=sel_ok h1 hR;refine⟨u',h2,fun ι a w hx=>?_⟩;have e1:=hO.rv (hx x (by simp[ho,Op.operands]));have e2:=hO.rv (hx y (by simp[ho,Op.operands]));rw[hp]at e1;rw[hq]at e2;obtain⟨v,h4,h5⟩:=h3 e1.int.2 (.inr e2.int.2);exact rd_bI ho (.inl rfl) h4 (h5 ι) e1.int.1 e2.int.1
  |r g j=>
   rw[hq]at h;obtain⟨r,k1,k2⟩:=oG_ok h hR;rw[selI_o]at k1;exact⟨r,k2,fun ι a w hx=>opq_ok k1 ho (by rw[←hp];exact hO.rv (hx x (by simp[ho,Op.operands]))) (by rw[←hq];exact hO.rv (hx y (by simp[ho,Op.operands])))⟩
  |k g t l=>
   rw[hq]at h;obtain⟨r,k1,k2⟩:=oG_ok h hR;rw[selI_o]at k1;exact⟨r,k2,fun ι a w hx=>opq_ok k1 ho (by rw[←hp];exact hO.rv (hx x (by simp[ho,Op.operands]))) (by rw[←hq];exact hO.rv (hx y (by simp[ho,Op.operands])))⟩
  |_=>rw[hq]at h;exact absurd h.symm hR
 |r g j=>
  rw[hp]at h;obtain⟨r,k1,k2⟩:=oG_ok h hR;rw[selI_o]at k1;exact⟨r,k2,fun ι a w hx=>opq_ok k1 ho (by rw[←hp];exact hO.rv (hx x (by simp[ho,Op.operands]))) (hO.rv (hx y (by simp[ho,Op.operands])))⟩
 |k g t l=>
  rw[hp]at h;obtain⟨r,k1,k2⟩:=oG_ok h hR;rw[selI_o]at k1;exact⟨r,k2,fun ι a w hx=>opq_ok k1 ho (by rw[←hp];exact hO.rv (hx x (by simp[ho,Op.operands]))) (hO.rv (hx y (by simp[ho,Op.operands])))⟩
 |_=>rw[hp]at h;exact absurd h.symm hR
theorem ok_binH{o:Oper}{s:Sx}{op:BinOp}{t u:TypeId}{x y:Operand}(ho:o.op=.binOp op t x y u)(hsh:isSh op=true):OpR P o s fun k=>⟨binHF (selI op) (opd s x) (opd s y) k⟩:=by
 intro K X e tm H θ R hO hR h;change bh0 (selI op) (fun v=>K.f X (.c v e) tm H) _ _=R at h;cases hp:(opd s x).f e tm with
 |i q n=>
  rw[hp]at h;cases hq:(opd s y).f e tm with
  |i q2 m=>
   rw[hq]at h;obtain⟨u',h2,h3⟩:=sel_ok h hR;refine⟨u',h2,fun ι a w hx=>?_⟩;have e1:=hO.rv (hx x (by simp[ho,Op.operands]));have e2:=hO.rv (hx y (by simp[ho,Op.operands]));rw[hp]at e1;rw[hq]at e2;obtain⟨v,h4,h5⟩:=h3 e1.int.2 (.inl hsh);refine rd_bI ho (.inr ?_) h4 (h5 ι) e1.int.1 e2.int.1;cases op<;>first|exact .inl rfl|exact .inr rfl|(simp[isSh]at hsh)
  |_=>rw[hq]at h;exact absurd h.symm hR
 |_=>rw[hp]at h;exact absurd h.symm hR
theorem normS_lt{l n:Nat}(h:normS l n=true):n<256 ^ l:=blt_lt h
theorem ok_binS{o:Oper}{s:Sx}{op:BinOp}{t u:TypeId}{x y:Operand}(ho:o.op=.binOp op t x y u):OpR P o s fun k=>⟨binSF op (opd s x) (opd s y) k⟩:=by
 intro K X e tm H θ R hO hR h;change bs0 op (fun v=>K.f X (.c v e) tm H) _ _=R at h;cases hp:(opd s x).f e tm with
 |s la a=>
  rw[hp]at h;cases hq:(opd s y).f e tm with
  |s lb b=>
   rw[hq]at h;obtain⟨c1,h1⟩:=iB_ok hR h;obtain⟨c2,c3⟩:=and_ok c1;obtain⟨c4,c5⟩:=and_ok c2;cases hadd:isAdd op with
   |true=>
    rw[hadd,iB_t,fN_eq,fN_eq]at h1;have hop:op=.add:=by cases op<;>first|rfl|(simp[isAdd]at hadd)
    subst hop;refine⟨_,h1,fun ι a' w hx=>?_⟩;have e1:=hO.rv (hx x (by simp[ho,Op.operands]));have e2:=hO.rv (hx y (by simp[ho,Op.operands]));rw[hp]at e1;rw[hq]at e2;exact rd_strA ho e1 e2 (normS_lt c4) (Nat.le_of_ble_eq_true c3)
   |false=>
    rw[hadd,iB_f]at h1;obtain⟨r,h2,h3⟩:=oR_ok h1 hR;rw[cB_eq]at h3;refine⟨_,h3,fun ι a' w hx=>?_⟩;have e1:=hO.rv (hx x (by simp[ho,Op.operands]));have e2:=hO.rv (hx y (by simp[ho,Op.operands]));rw[hp]at e1;rw[hq]at e2;exact rd_strB ho e1 e2 (normS_lt c4) (normS_lt c5) h2
  |r g j=>
   rw[hq]at h;obtain⟨r,k1,k2⟩:=oG_ok h hR;exact⟨r,k2,fun ι a w hx=>opq_ok k1 ho (by rw[←hp];exact hO.rv (hx x (by simp[ho,Op.operands]))) (by rw[←hq];exact hO.rv (hx y (by simp[ho,Op.operands])))⟩
  |k g t l=>
   rw[hq]at h;obtain⟨r,k1,k2⟩:=oG_ok h hR;exact⟨r,k2,fun ι a w hx=>opq_ok k1 ho (by rw[←hp];exact hO.rv (hx x (by simp[ho,Op.operands]))) (by rw[←hq];exact hO.rv (hx y (by simp[ho,Op.operands])))⟩
  |_=>rw[hq]at h;exact absurd h.symm hR
 |r g j=>
  rw[hp]at h;obtain⟨r,k1,k2⟩:=oG_ok h hR;exact⟨r,k2,fun ι a w hx=>opq_ok k1 ho (by rw[←hp];exact hO.rv (hx x (by simp[ho,Op.operands]))) (hO.rv (hx y (by simp[ho,Op.operands])))⟩
 |k g t l=>
  rw[hp]at h;obtain⟨r,k1,k2⟩:=oG_ok h hR;exact⟨r,k2,fun ι a w hx=>opq_ok k1 ho (by rw[←hp];exact hO.rv (hx x (by simp[ho,Op.operands]))) (hO.rv (hx y (by simp[ho,Op.operands])))⟩
 |_=>rw[hp]at h;exact absurd h.symm hR
theorem ok_not{o:Oper}{s:Sx}{t:TypeId}{x:Operand}(ho:o.op=.unOp .not t x):OpR P o s fun k=>⟨notF (opd s x) k⟩:=by
 intro K X e tm H θ R hO hR h;change ntG (fun v=>K.f X (.c v e) tm H) _=R at h;cases hp:(opd s x).f e tm with
 |b r=>
  rw[hp]at h;change cB (not r) (fun v=>K.f X (.c v e) tm H)=R at h;rw[cB_eq]at h;refine⟨_,h,fun ι a w hx=>?_⟩;have e1:=hO.rv (hx x (by simp[ho,Op.operands]));rw[hp]at e1;exact rd_un (v:=.bool (!r)) ho e1.bool rfl
 |_=>rw[hp]at h;exact absurd h.symm hR
theorem ok_un{o:Oper}{s:Sx}{op:UnOp}{t:TypeId}{x:Operand}(ho:o.op=.unOp op t x):OpR P o s fun k=>⟨unF P op (opd s x) k⟩:=by
 intro K X e tm H θ R hO hR h;obtain⟨u,h1,h2⟩:=oG_ok h hR;unfold unG at h1;cases h3:val1 ((opd s x).f e tm) with
 |none=>rw[h3]at h1;cases h1
 |some v=>
  rw[h3]at h1;simp only at h1;cases h4:purely P (Op.unary op v) with
  |none=>rw[h4]at h1;cases h1
  |some r=>
   rw[h4]at h1;simp only[Option.some.injEq]at h1;subst h1;refine⟨_,h2,fun ι a w hx=>?_⟩;exact rd_un ho (val1_eq h3 (hO.rv (hx x (by simp[ho,Op.operands])))) h4
theorem rd_cvi{o:Oper}{ev:Operand→Value}{w:World}{s d:TypeId}{x:Operand}(ho:o.op=.convert s d x){ds:TypeDesc}{r:IntKind}(hs:P.underlying s=some ds)(hd:P.underlying d=some (.int r)){k:IntKind}{n:Int}(hx:ev x=.int k n):Rd P ι w ev o (.i r (r.wrap n)):=by
 refine⟨.int r (r.wrap n),?_,rfl,wrap_wrap r n⟩;simp only[execOp,ho,hx,convert,Sem.run_bind,run_und hs,run_und hd,Result.andThen];rfl
theorem ok_cvi{o:Oper}{s:Sx}{t d:TypeId}{x:Operand}(ho:o.op=.convert t d x){ds:TypeDesc}{r:IntKind}(hs:P.underlying t=some ds)(hd:P.underlying d=some (.int r)):OpR P o s fun k=>⟨cviF r (opd s x) k⟩:=by
 intro K X e tm H θ R hO hR h;change cvG r (fun v=>K.f X (.c v e) tm H) _=R at h;cases hp:(opd s x).f e tm with
 |i q n=>
  rw[hp]at h;have:K.f X (.c (.i r (r.wrap n)) e) tm H=R:=by
   cases n with
   |negSucc a=>
    change cI r (r.wrap (.negSucc a)) (fun v=>K.f X (.c v e) tm H)=R at h;rw[cI_eq]at h;exact h
   |ofNat a=>
    change Bool.rec (motive:=fun _=>Res) (cI r (r.wrap (.ofNat a)) (fun v=>K.f X (.c v e) tm H)) (cN r a (fun v=>K.f X (.c v e) tm H)) (Nat.ble a 127)=R at h;cases hc:Nat.ble a 127 with
    |false=>rw[hc]at h;change cI r _ _=R at h;rw[cI_eq]at h;exact h
    |true=>
     rw[hc]at h;change cN r a _=R at h;rw[cN_eq]at h;rw[small (Nat.le_of_ble_eq_true hc)];exact h
  refine⟨_,this,fun ι a w hx=>?_⟩;have e1:=hO.rv (hx x (by simp[ho,Op.operands]));rw[hp]at e1;exact rd_cvi ho hs hd e1.int.1
 |_=>rw[hp]at h;exact absurd h.symm hR
theorem ok_cvs{o:Oper}{s:Sx}{t d:TypeId}{x:Operand}(ho:o.op=.convert t d x)(hs:P.underlying t=some .string)(hd:P.underlying d=some .string):OpR P o s fun k=>⟨cvsF (opd s x) k⟩:=by
 intro K X e tm H θ R hO hR h;change csG (fun v=>K.f X (.c v e) tm H) _=R at h;cases hp:(opd s x).f e tm with
 |s l n=>
  rw[hp]at h;refine⟨_,h,fun ι a w hx=>?_⟩;have e1:=hO.rv (hx x (by simp[ho,Op.operands]));rw[hp]at e1;refine⟨a.eval x,?_,e1⟩;rw[e1.str];simp only[execOp,ho,e1.str,convert,Sem.run_bind,run_und hs,run_und hd,Result.andThen];rfl
 |_=>rw[hp]at h;exact absurd h.symm hR
theorem ok_ifc{o:Oper}{s:Sx}{t:TypeId}{x:Operand}(ho:o.op=.makeInterface t x){d:TypeDesc}(ht:P.underlying t=some d)(hd:∀m,d≠.interface m):OpR P o s fun k=>⟨ifcF t (opd s x) k⟩:=by
 intro K X e tm H θ R hO hR h;exact⟨_,h,fun ι a w hx=>rd_ifc (ρ:=fun _=>(opd s x).f e tm) ho ht hd (hO.rv (hx x (by simp[ho,Op.operands])))⟩
theorem gL_eq(l:List OW)(e:E)(tm:TM):gL l e tm=mkL (l.map fun x=>x.f e tm):=by
 induction l with
 |nil=>rfl
 |cons x l ih=>show AV.cons _ (gL l e tm)=AV.cons _ _;rw[ih]
theorem RL_mem{ev:Operand→Value}{ρ:Operand→AV}:∀{l:List Operand},(∀x∈l,RV ι (ρ x) (ev x))→RL ι (mkL (l.map ρ)) (l.map ev)
 |[],_=>rfl
 |x::_l,h=>⟨_,_,rfl,h x (List.mem_cons_self ..),RL_mem fun y hy=>h y (List.mem_cons_of_mem _ hy)⟩
theorem ok_mkf{o:Oper}{s:Sx}{f:FuncId}{fst cap:Array Operand}(ho:o.op=.makeFunc (.func f) fst cap)(hf:fst.size=0):OpR P o s fun k=>⟨mkfF f (cap.toList.map (opd s)) k⟩:=by
 intro K X e tm H θ R hO hR h;refine⟨_,h,fun ι a w hx=>?_⟩;have:fst=#[]:=Array.eq_empty_of_size_eq_zero hf;subst this;rw[gL_eq,List.map_map];refine⟨.func (.func f) #[] (cap.map a.eval),?_,⟨_,RL_mem (ρ:=(fun x=>x.f e tm)∘opd s) (ev:=a.eval) fun x hm=>hO.rv (hx x (by rw[ho];simp only[Op.operands];simpa using hm)),?_⟩⟩
 ·simp[execOp,ho,Instr.makeFunc,go_sem]
 ·simp[←Array.toList_map]
theorem asK_ok{l:AV}{C:AV→AV→Res}{R:Res}(h:asK l C=R)(hR:R≠.fail):∃x t,l=.cons x t∧C x t=R:=by
 cases l with
 |cons x t=>exact⟨x,t,rfl,h⟩
 |_=>exact absurd h.symm hR
theorem dropA_ok:∀{k:Nat} {l:AV} {C:AV→Res} {R:Res},dropA k l C=R→R≠.fail→∃d,drp k l=some d∧C d=R
 |0,l,C,R,h,hR=>⟨l,by cases l<;>rfl,h⟩
 |k+1,l,C,R,h,hR=>by
  obtain⟨x,t,rfl,h1⟩:=asK_ok (C:=fun _ t=>dropA k t C) h hR;obtain⟨d,h2,h3⟩:=dropA_ok h1 hR;exact⟨d,h2,h3⟩
theorem takeA_ok:∀{k:Nat} {l:AV} {C:AV→Res} {R:Res},takeA k l C=R→R≠.fail→∃d,tke k l=some d∧C d=R
 |0,l,C,R,h,hR=>⟨.nil,by cases l<;>rfl,h⟩
 |k+1,l,C,R,h,hR=>by
  obtain⟨x,t,rfl,h1⟩:=asK_ok (C:=fun x t=>takeA k t fun t=>C (.cons x t)) h hR;obtain⟨d,h2,h3⟩:=takeA_ok h1 hR;exact⟨.cons x d,by simp[tke,h2],h3⟩
theorem part_ok{ag:Bool}{off n:Nat}{l:AV}{C:AV→Res}{R:Res}(h:partF ag off n l C=R)(hR:R≠.fail):∃u,C u=R∧∀(P:Program) (t:TypeId),(∀w,(isAgg t).run P w=.ok ag w)→(∀w,(Go.sizeOf t).run P w=.ok n w)→∀(ι:Io) (w:World) (ws:List Value),RL ι l ws→∃v,(part t ws.toArray off).run P w=.ok v w∧RV ι u v:=by
 obtain⟨d,h1,h2⟩:=dropA_ok h hR;cases ag with
 |true=>
  obtain⟨m,h3,h4⟩:=takeA_ok h2 hR;exact⟨_,h4,fun P t ht hz ι w ws hl=>run_partA hl h1 ht hz h3⟩
 |false=>
  obtain⟨x,m,rfl,h4⟩:=asK_ok h2 hR;exact⟨x,h4,fun P t ht hz ι w ws hl=>run_part1 hl h1 ht⟩
theorem ok_fie{o:Oper}{s:Sx}{t:TypeId}{x:Operand}{f:Nat}(ho:o.op=.field t x f){fs:Array Field}(hs:P.underlying t=some (.struct fs)){fl:Field}(hf:fs[f]?=some fl){ag:Bool}{n:Nat}(ht:∀w,(isAgg fl.type).run P w=.ok ag w)(hz:∀w,(Go.sizeOf fl.type).run P w=.ok n w):OpR P o s fun k=>⟨fieF ag fl.offset n (opd s x) k⟩:=by
 intro K X e tm H θ R hO hR h;change feG ag fl.offset n (fun v=>K.f X (.c v e) tm H) _=R at h;cases hp:(opd s x).f e tm with
 |k g z l=>
  rw[hp]at h;obtain⟨c1,h1⟩:=tst hR h;have hg:g=0:=Nat.eq_of_beq_eq_true c1;subst hg;obtain⟨u,h2,h3⟩:=part_ok h1 hR;refine⟨u,h2,fun ι a w hx=>?_⟩;have e1:=hO.rv (hx x (by simp[ho,Op.operands]));rw[hp]at e1;exact rd_fie ho hs hf e1 fun ws hl=>h3 P fl.type ht hz ι w ws hl
 |_=>rw[hp]at h;exact absurd h.symm hR
theorem ok_iaa{o:Oper}{s:Sx}{t:TypeId}{x y:Operand}(ho:o.op=.index t x y){len:Nat}{el:TypeId}(htt:P.underlying t=some (.array len el)){ag:Bool}{n:Nat}(ht:∀w,(isAgg el).run P w=.ok ag w)(hz:∀w,(Go.sizeOf el).run P w=.ok n w):OpR P o s fun k=>⟨iaaF ag len n (opd s x) (opd s y) k⟩:=by
 intro K X e tm H θ R hO hR h;obtain⟨kk,i,hi,h0⟩:=aN_ok (C:=fun i=>ieG ag len n (fun v=>K.f X (.c v e) tm H) i ((opd s x).f e tm)) h hR;cases hp:(opd s x).f e tm with
 |k g z l=>
  rw[hp]at h0;obtain⟨c1,h1⟩:=tst hR h0;obtain⟨c2,c3⟩:=and_ok c1;have hg:g=0:=Nat.eq_of_beq_eq_true c2;subst hg;obtain⟨u,h2,h3⟩:=part_ok h1 hR;refine⟨u,h2,fun ι a w hx=>?_⟩;have e1:=hO.rv (hx x (by simp[ho,Op.operands]));have e2:=hO.rv (hx y (by simp[ho,Op.operands]));rw[hp]at e1;rw[hi]at e2;exact rd_iaa ho htt e1 e2 (blt_lt c3) hz fun ws hl=>h3 P el ht hz ι w ws hl
 |_=>rw[hp]at h0;exact absurd h0.symm hR
theorem ok_ext{o:Oper}{s:Sx}{x:Operand}{i:Nat}(ho:o.op=.extract x i):OpR P o s fun k=>⟨extF i (opd s x) k⟩:=by
 intro K X e tm H θ R hO hR h;change exG i (fun v=>K.f X (.c v e) tm H) _=R at h;cases hp:(opd s x).f e tm with
 |k g t l=>
  rw[hp]at h;obtain⟨c1,h3⟩:=tst hR h;have hg:g=1:=Nat.eq_of_beq_eq_true c1;subst hg;obtain⟨d,h4,h5⟩:=dropA_ok h3 hR;obtain⟨y,m,rfl,h6⟩:=asK_ok h5 hR;refine⟨y,h6,fun ι a w hx=>?_⟩;have e1:=hO.rv (hx x (by simp[ho,Op.operands]));rw[hp]at e1;exact rd_ext ho e1 h4
 |_=>rw[hp]at h;exact absurd h.symm hR
theorem ok_ta{o:Oper}{s:Sx}{x:Operand}{u t:TypeId}(ho:o.op=.typeAssert x u t true){d:TypeDesc}(ht:P.underlying t=some d)(hd:∀m,d≠.interface m){z:Value}(hz:∀w,(zeroValue t).run P w=.ok z w):OpR P o s fun k=>⟨taF t (ofV z) (opd s x) k⟩:=by
 intro K X e tm H θ R hO hR h;change taG t (ofV z) (fun v=>K.f X (.c v e) tm H) _=R at h;cases hp:(opd s x).f e tm with
 |v r=>
  rw[hp]at h;obtain⟨c1,h1⟩:=tst hR h;have hr:r=.nilIface:=by cases r<;>first|rfl|(simp[isNilI]at c1)
  subst hr;refine⟨_,h1,fun ι a w hx=>?_⟩;have e1:=hO.rv (hx x (by simp[ho,Op.operands]));rw[hp]at e1;exact rd_tan ho ht hd hz (RV_of z) (.inl e1.vv)
 |k g q l=>
  rw[hp]at h;obtain⟨c1,h1⟩:=tst hR h;have hg:g=3:=Nat.eq_of_beq_eq_true c1;subst hg;cases hq:Nat.beq q t with
  |true=>
   rw[hq]at h1;have hqt:q=t:=Nat.eq_of_beq_eq_true hq;subst hqt;refine⟨_,h1,fun ι a w hx=>?_⟩;have e1:=hO.rv (hx x (by simp[ho,Op.operands]));rw[hp]at e1;exact rd_ta ho ht hd e1
  |false=>
   rw[hq]at h1;refine⟨_,h1,fun ι a w hx=>?_⟩;have e1:=hO.rv (hx x (by simp[ho,Op.operands]));rw[hp]at e1;obtain⟨v,-,hv⟩:=e1.ifc;exact rd_tan ho ht hd hz (RV_of z) (.inr ⟨q,v,hv,Nat.ne_of_beq_eq_false hq⟩)
 |_=>rw[hp]at h;exact absurd h.symm hR
theorem ok_ta1{o:Oper}{s:Sx}{x:Operand}{u t:TypeId}(ho:o.op=.typeAssert x u t false){d:TypeDesc}(ht:P.underlying t=some d)(hd:∀m,d≠.interface m):OpR P o s fun k=>⟨ta1F t (opd s x) k⟩:=by
 intro K X e tm H θ R hO hR h;change t1G t (fun v=>K.f X (.c v e) tm H) _=R at h;cases hp:(opd s x).f e tm with
 |k g q l=>
  rw[hp]at h;obtain⟨c1,h1⟩:=tst hR h;obtain⟨c2,c3⟩:=and_ok c1;have hg:g=3:=Nat.eq_of_beq_eq_true c2;subst hg;have hqt:q=t:=Nat.eq_of_beq_eq_true c3;subst hqt;refine⟨_,h1,fun ι a w hx=>?_⟩;have e1:=hO.rv (hx x (by simp[ho,Op.operands]));rw[hp]at e1;exact rd_ta ho ht hd e1
 |_=>rw[hp]at h;exact absurd h.symm hR
end Go.Proofs.YtglihimiidiacaaGreatDoor.Ev8
namespace Go.Proofs.YtglihimiidiacaaGreatDoor.Ev8
open Go
variable {P:Program} {ι ι':Io}
theorem gON_ok{s:Sx}{x:Option Operand}{d:Nat}{e:E}{tm:TM}{C:Nat→Res}{R:Res}(h:gON (x.map (opd s)) d e tm C=R)(hR:R≠.fail):∃n,C n=R∧∀(θ:Te) (ι:Io) (a:Act),OV s θ e tm→(∀y,x=some y→RV ι (aev θ y) (a.eval y))→oN a.eval x d n:=by
 cases x with
 |none=>exact⟨d,h,fun _ _ _ _ _=>.inl ⟨rfl,rfl⟩⟩
 |some y=>
  obtain⟨k,n,h1,h2⟩:=aN_ok h hR;refine⟨n,h2,fun θ ι a hO hx=>.inr ⟨y,k,rfl,?_⟩⟩;have:=hO.rv (hx y rfl);rw[h1]at this;exact this.int.1
theorem fSl_eq{b e o k n:Nat}{c:Option Nat}{C:AV→Res}:fSl (.sl b e o k n c) C=C (.sl b e o k n c):=by
 show fN o (fun o=>fN k (fun k=>fN n (fun n=>Option.rec (motive:=fun _=>Res) (C (.sl b e o k n none)) (fun c=>fN c fun c=>C (.sl b e o k n (some c))) c)))=_;rw[fN_eq,fN_eq,fN_eq];cases c with
 |none=>rfl
 |some c=>exact fN_eq c _
theorem slO_ok{C:AV→Res}{v:Option AV}{R:Res}(h:slO C v=R)(hR:R≠.fail):∃u,v=some u∧C u=R:=by
 cases v with
 |none=>exact absurd h.symm hR
 |some u=>
  refine⟨u,rfl,?_⟩;cases u with
  |sl b e o k n c=>exact fSl_eq.symm.trans h
  |_=>exact absurd h.symm hR
theorem sl_ops{t:TypeId}{x:Operand}{lo hi mx:Option Operand}{o:Oper}(ho:o.op=.slice t x lo hi mx):x∈o.op.operands.toList∧(∀y,lo=some y→y∈o.op.operands.toList)∧(∀y,hi=some y→y∈o.op.operands.toList)∧(∀y,mx=some y→y∈o.op.operands.toList):=by
 rw[ho];refine⟨by simp[Op.operands],?_,?_,?_⟩<;>intro y hy<;>subst hy<;>simp[Op.operands]
theorem rd_sln{o:Oper}{ev:Operand→Value}{w:World}{t:TypeId}{x:Operand}{lo hi mx:Option Operand}(ho:o.op=.slice t x lo hi mx){el:TypeId}(ht:P.underlying t=some (.slice el)){e:Nat}(hz:∀w,(Go.sizeOf el).run P w=.ok e w)
 (hx:ev x=.slice none 0 0) (hlo:oN ev lo 0 0) (hhi:oN ev hi 0 0) (hmx:oN ev mx 0 0) (h0:mx.isSome→hi.isSome):Rd P ι w ev o (.v (.slice none 0 0)):=by
 refine⟨.slice none 0 0,?_,rfl⟩;have hb:=run_bnds (P:=P) (w:=w) (isS:=true) (len:=0) (cap:=0) hlo hhi hmx h0 (Nat.le_refl 0) (Nat.le_refl 0) (Nat.le_refl 0);have e1:(Instr.sliceAt t (ev x) (lo.map ev) (hi.map ev) (mx.map ev)).run P w=.ok (.slice none 0 0) w:=by
  rw[hx];simp only[Instr.sliceAt,Instr.slice,Sem.run_bind,run_und ht,Result.andThen,hb,hz,Sem.run_pure];rfl
 simp only[execOp,ho,Sem.run_bind,e1,Result.andThen];rfl
theorem isNilS_eq{x:Value}(h:isNilS x=true):x=.slice none 0 0:=by
 unfold isNilS at h;split at h
 ·rfl
 ·cases h
theorem ok_sls{o:Oper}{s:Sx}{t:TypeId}{x:Operand}{lo hi mx:Option Operand}(ho:o.op=.slice t x lo hi mx){el:TypeId}(ht:P.underlying t=some (.slice el)){sz:Nat}(hz:∀w,(Go.sizeOf el).run P w=.ok sz w)(h0:mx.isSome→hi.isSome):
 OpR P o s fun k=>⟨slsF sz (opd s x) (lo.map (opd s)) (hi.map (opd s)) (mx.map (opd s)) k⟩:=by
 intro K X e tm H θ R hO hR h;change slG sz _ _ _ e tm (fun v=>K.f X (.c v e) tm H) _=R at h;obtain⟨m1,m2,m3,m4⟩:=sl_ops ho;cases hp:(opd s x).f e tm with
 |v r=>
  rw[hp]at h;change gON (lo.map (opd s)) 0 e tm (fun l=>gON (hi.map (opd s)) 0 e tm fun hh=>gON (mx.map (opd s)) 0 e tm fun m=>Bool.rec (motive:=fun _=>Res) .fail (K.f X (.c (.v (.slice none 0 0)) e) tm H) (and (Nat.beq (Nat.add l (Nat.add hh m)) 0) (isNilS r)))=R at h;obtain⟨l,h1,f1⟩:=gON_ok h hR;obtain⟨hh,h2,f2⟩:=gON_ok h1 hR;obtain⟨m,h3,f3⟩:=gON_ok h2 hR;obtain⟨c1,h4⟩:=tst hR h3;obtain⟨c2,c3⟩:=and_ok c1;have hs:l+(hh+m)=0:=Nat.eq_of_beq_eq_true c2;have hr:=isNilS_eq c3;subst hr;have z1:l=0:=by omega
  have z2:hh=0:=by omega
  have z3:m=0:=by omega
  subst z1;subst z2;subst z3;refine⟨_,h4,fun ι a w hx=>?_⟩;have e1:=hO.rv (hx x m1);rw[hp]at e1;exact rd_sln ho ht hz e1.vv (f1 θ ι a hO fun y hy=>hx y (m2 y hy)) (f2 θ ι a hO fun y hy=>hx y (m3 y hy)) (f3 θ ι a hO fun y hy=>hx y (m4 y hy)) h0
 |sl b e' q z n c=>
  rw[hp]at h;change Bool.rec (motive:=fun _=>Res) .fail (gON (lo.map (opd s)) 0 e tm fun l=>gON (hi.map (opd s)) n e tm fun hh=>slM (fun v=>K.f X (.c v e) tm H) (mx.map (opd s)) e tm (sliceV b e' q z n c l hh)) (Nat.beq e' sz)=R at h;obtain⟨c0,h'⟩:=tst hR h;have he:e'=sz:=Nat.eq_of_beq_eq_true c0;subst he;obtain⟨l,h1,f1⟩:=gON_ok h' hR;obtain⟨hh,h2,f2⟩:=gON_ok h1 hR;cases mx with
  |none=>
   obtain⟨u,h3,h4⟩:=slO_ok h2 hR;refine⟨u,h4,fun ι a w hx=>?_⟩;have e1:=hO.rv (hx x m1);rw[hp]at e1;exact rd_sls ho ht hz e1 (m:=0) (f1 θ ι a hO fun y hy=>hx y (m2 y hy)) (f2 θ ι a hO fun y hy=>hx y (m3 y hy)) (fun hq=>by cases hq) h0 h3
  |some zz=>
   obtain⟨kk,m,hm,h3⟩:=aN_ok h2 hR;obtain⟨u,h5,h4⟩:=slO_ok h3 hR;refine⟨u,h4,fun ι a w hx=>?_⟩;have e1:=hO.rv (hx x m1);rw[hp]at e1;have e2:=hO.rv (hx zz (m4 zz rfl));rw[hm]at e2;exact rd_sls ho ht hz e1 (m:=m) (f1 θ ι a hO fun y hy=>hx y (m2 y hy)) (f2 θ ι a hO fun y hy=>hx y (m3 y hy)) (fun _=>.inr ⟨zz,kk,rfl,e2.int.1⟩) h0 h5
 |_=>rw[hp]at h;exact absurd h.symm hR
theorem ok_sla{o:Oper}{s:Sx}{t:TypeId}{x:Operand}{lo hi:Option Operand}(ho:o.op=.slice t x lo hi none){len:Nat}{el:TypeId}(ht:P.underlying t=some (.array len el)){sz:Nat}(hz:∀w,(Go.sizeOf el).run P w=.ok sz w):
 OpR P o s fun k=>⟨slaF len sz (opd s x) (lo.map (opd s)) (hi.map (opd s)) k⟩:=by
 intro K X e tm H θ R hO hR h;change saG len sz _ _ e tm (fun v=>K.f X (.c v e) tm H) _=R at h;obtain⟨m1,m2,m3,m4⟩:=sl_ops ho;cases hp:(opd s x).f e tm with
 |ptr b q=>
  rw[hp]at h;change Bool.rec (motive:=fun _=>Res) .fail (gON (lo.map (opd s)) 0 e tm fun l=>gON (hi.map (opd s)) len e tm fun hh=>slO (fun v=>K.f X (.c v e) tm H) (sliceV b sz (Nat.div q sz) (Nat.div q sz) len (some len) l hh none)) (and (Nat.beq (Nat.mod q sz) 0) (Nat.blt 0 sz))=R at h;obtain⟨c0,h⟩:=tst hR h;obtain⟨c1,c2⟩:=and_ok c0;have hq:q % sz=0:=Nat.eq_of_beq_eq_true c1;obtain⟨l,h1,f1⟩:=gON_ok h hR;obtain⟨hh,h2,f2⟩:=gON_ok h1 hR;obtain⟨u,h3,h4⟩:=slO_ok h2 hR;refine⟨u,h4,fun ι a w hx=>?_⟩;have e1:=hO.rv (hx x m1);rw[hp]at e1;exact rd_sla ho ht hz hq e1 (f1 θ ι a hO fun y hy=>hx y (m2 y hy)) (f2 θ ι a hO fun y hy=>hx y (m3 y hy)) h3
 |_=>rw[hp]at h;exact absurd h.symm hR
theorem ok_str{o:Oper}{s:Sx}{t:TypeId}{x:Operand}{lo hi:Option Operand}(ho:o.op=.slice t x lo hi none)(ht:P.underlying t=some .string):OpR P o s fun k=>⟨strF (opd s x) (lo.map (opd s)) (hi.map (opd s)) k⟩:=by
 intro K X e tm H θ R hO hR h;change stG _ _ e tm (fun v=>K.f X (.c v e) tm H) _=R at h;obtain⟨m1,m2,m3,m4⟩:=sl_ops ho;cases hp:(opd s x).f e tm with
 |s l n=>
  rw[hp]at h;change gON (lo.map (opd s)) 0 e tm (fun p=>gON (hi.map (opd s)) l e tm fun z=>Bool.rec (motive:=fun _=>Res) .fail (fN (Nat.sub z p) fun m=>fN (Nat.mod (Nat.div n (Nat.pow 256 p)) (Nat.pow 256 m)) fun n=>K.f X (.c (.s m n) e) tm H) (and (Nat.ble p z) (Nat.ble z l)))=R at h;obtain⟨p,h1,f1⟩:=gON_ok h hR;obtain⟨z,h2,f2⟩:=gON_ok h1 hR;obtain⟨c0,h3⟩:=tst hR h2;obtain⟨c1,c2⟩:=and_ok c0;rw[fN_eq,fN_eq]at h3;refine⟨_,h3,fun ι a w hx=>?_⟩;have e1:=hO.rv (hx x m1);rw[hp]at e1;exact rd_str ho ht e1 (f1 θ ι a hO fun y hy=>hx y (m2 y hy)) (f2 θ ι a hO fun y hy=>hx y (m3 y hy)) (Nat.le_of_ble_eq_true c1) (Nat.le_of_ble_eq_true c2)
 |_=>rw[hp]at h;exact absurd h.symm hR
theorem i64_nat{n:Nat}(h:n≤9223372036854775807):IntKind.i64.wrap (.ofNat n)=.ofNat n:=by
 refine wrap_id.2 ⟨?_,?_⟩<;>simp only[lo,hi,Int.ofNat_eq_natCast]<;>omega
theorem ok_lnL{o:Oper}{s:Sx}{args:Array Operand}{ts:Array TypeId}{x:Operand}(ho:o.op=.call {callee:=.builtin .len,args:=args,argTypes:=ts})(ha:args=#[x]){t el:TypeId}(htt:ts[0]?=some t)(ht:P.underlying t=some (.slice el)):OpR P o s fun k=>⟨lnLF (opd s x) k⟩:=by
 intro K X e tm H θ R hO hR h;change lnG (fun v=>K.f X (.c v e) tm H) _=R at h;have m1:x∈o.op.operands.toList:=by rw[ho,ha];simp[Op.operands,Call.operands]
 cases hp:(opd s x).f e tm with
 |v r=>
  rw[hp]at h;obtain⟨c1,h1⟩:=tst hR h;have hr:=isNilS_eq c1;subst hr;refine⟨_,h1,fun ι a w hx=>?_⟩;have e1:=hO.rv (hx x m1);rw[hp]at e1;exact rd_len ho ha htt (.inr (.inr ⟨el,0,ht,e1.vv⟩)) rfl
 |sl b e' q z n c=>
  rw[hp]at h;obtain⟨c1,h1⟩:=tst hR h;refine⟨_,h1,fun ι a w hx=>?_⟩;have e1:=hO.rv (hx x m1);rw[hp]at e1;exact rd_len ho ha htt (.inr (.inl ⟨el,b,e',q,z,c,ht,e1⟩)) (i64_nat (Nat.le_of_ble_eq_true c1))
 |_=>rw[hp]at h;exact absurd h.symm hR
theorem rd_lenS{o:Oper}{ev:Operand→Value}{w:World}{args:Array Operand}{ts:Array TypeId}{x:Operand}{t:TypeId}(ho:o.op=.call {callee:=.builtin .len,args:=args,argTypes:=ts})(ha:args=#[x])(htt:ts[0]?=some t)(ht:P.underlying t=some .string){s:ByteArray}(hx:ev x=.string s){r:AV}(hr:RV ι r (.int .i64 s.size)):Rd P ι w ev o r:=by
 refine⟨.int .i64 s.size,?_,hr⟩;subst ha;simp[execOp,ho,resolve,invoke,builtin,Builtin.len_,htt,hx,run_und ht,goInt,go_sem]
theorem lenQ_ok{a r:AV}(h:lenQ a=some r){v:Value}(hv:RV ι a v):∃s:ByteArray,v=.string s∧RV ι r (.int .i64 s.size):=by
 unfold lenQ at h;split at h
 ·rename_i g j
  cases ht:isTx g with
  |false=>rw[ht]at h;cases h
  |true=>
   rw[ht]at h;simp only[cond_true]at h;obtain⟨E,-,rfl⟩:=RV.tx ht hv;have hz:=decB_size (g-40) (opX E);have hs:(decB (dbl (g-40) (opX E))).size=(Lib.itoa (dbl (g-40) (opX E))).length:=by rw[←decB_list];rfl
   exact⟨_,rfl,(itv_rl h (by omega) (by omega)).1⟩
 ·rename_i t l
  split at h
  ·rename_i a b hs
   obtain⟨ws,bs,k1,k2,rfl⟩:=RV.cat hv;obtain⟨bs',k4,k5,k6⟩:=segs_ok hs k1;rw[k2]at k4;cases k4;have hz:(⟨bs.toArray⟩:ByteArray).size=bs.length:=by simp[ByteArray.size]
   exact⟨_,rfl,(itv_rl h (by omega) (by omega)).1⟩
  ·cases h
 ·cases h
theorem ok_lnS{o:Oper}{s:Sx}{args:Array Operand}{ts:Array TypeId}{x:Operand}(ho:o.op=.call {callee:=.builtin .len,args:=args,argTypes:=ts})(ha:args=#[x]){t:TypeId}(htt:ts[0]?=some t)(ht:P.underlying t=some .string):OpR P o s fun k=>⟨lnSF (opd s x) k⟩:=by
 intro K X e tm H θ R hO hR h;change lsG (fun v=>K.f X (.c v e) tm H) _=R at h;have m1:x∈o.op.operands.toList:=by rw[ho,ha];simp[Op.operands,Call.operands]
 cases hp:(opd s x).f e tm with
 |s l n=>
  rw[hp]at h;obtain⟨c1,h1⟩:=tst hR h;refine⟨_,h1,fun ι a w hx=>?_⟩;have e1:=hO.rv (hx x m1);rw[hp]at e1;exact rd_len ho ha htt (.inl ⟨l,n,ht,e1,rfl⟩) (i64_nat (Nat.le_of_ble_eq_true c1))
 |r g j=>
  rw[hp]at h;obtain⟨r,k1,k2⟩:=oG_ok h hR;refine⟨r,k2,fun ι a w hx=>?_⟩;have e1:=hO.rv (hx x m1);rw[hp]at e1;obtain⟨s',e2,e3⟩:=lenQ_ok k1 e1;exact rd_lenS ho ha htt ht e2 e3
 |k g t' l=>
  rw[hp]at h;obtain⟨r,k1,k2⟩:=oG_ok h hR;refine⟨r,k2,fun ι a w hx=>?_⟩;have e1:=hO.rv (hx x m1);rw[hp]at e1;obtain⟨s',e2,e3⟩:=lenQ_ok k1 e1;exact rd_lenS ho ha htt ht e2 e3
 |_=>rw[hp]at h;exact absurd h.symm hR
theorem ok_mm{o:Oper}{s:Sx}{args:Array Operand}{ts:Array TypeId}{x y:Operand}{lt:Bool}(ho:o.op=.call {callee:=.builtin (if lt then .max else .min),args:=args,argTypes:=ts})(ha:args=#[x,y]):OpR P o s fun k=>⟨mmF lt (opd s x) (opd s y) k⟩:=by
 intro K X e tm H θ R hO hR h;change mm0 lt (fun v=>K.f X (.c v e) tm H) _ _=R at h;have m1:x∈o.op.operands.toList:=by rw[ho,ha];simp[Op.operands,Call.operands]
 have m2:y∈o.op.operands.toList:=by rw[ho,ha];simp[Op.operands,Call.operands]
 cases hp:(opd s x).f e tm with
 |i q n=>
  rw[hp]at h;cases hq:(opd s y).f e tm with
  |i q2 m=>
   rw[hq]at h;obtain⟨c1,h1⟩:=tst hR h;have hk:q=q2:=kN_inj (Nat.eq_of_beq_eq_true c1);subst hk;have key:lssI q n m (mm3 lt (fun v=>K.f X (.c v e) tm H) q n m)=mm3 lt (fun v=>K.f X (.c v e) tm H) q n m (.b (decide (n<m))):=by
    cases n with
    |ofNat a=>cases m with
     |ofNat b=>show cB (Nat.blt a b) _=_;rw[cB_eq,blt_dec];congr 2;simp
     |negSucc b=>
      rw[show decide (Int.ofNat a<Int.negSucc b)=false from by simp only[Int.ofNat_eq_natCast,decide_eq_false_iff_not];omega];rfl
    |negSucc a=>cases m with
     |ofNat b=>
      rw[show decide (Int.negSucc a<Int.ofNat b)=true from by simp only[Int.ofNat_eq_natCast,decide_eq_true_eq];omega];rfl
     |negSucc b=>show cB (Nat.blt b a) _=_;rw[cB_eq,blt_dec];congr 2;simp;omega
   have h2:=key.symm.trans h1;have h3:K.f X (.c (.i q (if Bool.xor (decide (n<m)) lt then n else m)) e) tm H=R:=by
    change Bool.rec (motive:=fun _=>Res) (K.f X (.c (.i q m) e) tm H) (K.f X (.c (.i q n) e) tm H) (Bool.xor (decide (n<m)) lt)=R at h2;cases hx:Bool.xor (decide (n<m)) lt<;>rw[hx]at h2<;>exact h2
   refine⟨_,h3,fun ι a w hx=>?_⟩;have e1:=hO.rv (hx x m1);have e2:=hO.rv (hx y m2);rw[hp]at e1;rw[hq]at e2;exact rd_mm ho ha e1 e2 e2.int.2
  |_=>rw[hq]at h;exact absurd h.symm hR
 |_=>rw[hp]at h;exact absurd h.symm hR
end Go.Proofs.YtglihimiidiacaaGreatDoor.Ev8
namespace Go.Proofs.YtglihimiidiacaaGreatDoor.Ev8
open Go
variable {P:Program} {ι ι':Io}
structure TyOk (P:Program) (ti:TT):Prop where
 info:∀t,gT t=true→P.info? t=some (tI ti t)
 und:∀t,gT t=true→P.underlying t=some (und ti t)
 one:∀t,gT t=true→aggT ti t=false→(tI ti t).size=1
 pos:∀t,gT t=true→0<(tI ti t).size
 byt:∀t,gT t=true→(tI ti t).bytes≤1073741824
 zero:∀t,gT t=true→∃z,(tI ti t).zero=some z∧z.cells.size=(tI ti t).size∧(∀cs,z≠.tuple cs)
 sl:∀t el,gT t=true→Ev8.und ti t=.slice el→gT el=true
 ar:∀t n el,gT t=true→Ev8.und ti t=.array n el→gT el=true
 mp:∀t k el,gT t=true→Ev8.und ti t=.map k el→gT k=true∧gT el=true
 st:∀t fs,gT t=true→Ev8.und ti t=.struct fs→∀f∈fs.toList,gT f.type=true
 pt:∀t el,gT t=true→Ev8.und ti t=.pointer el→P.cellsOf el=(tI ti el).size
 cv:∀t,gT t=true→cvT t=true→∃k,Ev8.und ti t=.int k
namespace TyOk
variable {ti:TT}
theorem isAgg(T:TyOk P ti){t:TypeId}(h:gT t=true)(w:World):(Go.isAgg t).run P w=.ok (aggT ti t) w:=by
 unfold Go.isAgg aggT;rw[Sem.run_bind,run_und (T.und t h)];simp only[Result.andThen];cases Ev8.und ti t<;>rfl
theorem sizeOf(T:TyOk P ti){t:TypeId}(h:gT t=true)(w:World):(Go.sizeOf t).run P w=.ok (tI ti t).size w:=by
 unfold Go.sizeOf;rw[Sem.run_bind,run_info (T.info t h)];rfl
theorem zeroValue(T:TyOk P ti){t:TypeId}(h:gT t=true){z:Value}(hz:(tI ti t).zero=some z)(w:World):(Go.zeroValue t).run P w=.ok z w:=by
 unfold Go.zeroValue;rw[Sem.run_bind,run_info (T.info t h)];simp only[Result.andThen,hz];rfl
end TyOk
theorem nth_eq{α:Type}:∀(l:List α) (n:Nat),nth l n=l[n]?
 |[],n=>by simp[nth]
 |a::l,0=>rfl
 |a::l,n+1=>by
  show(bif Nat.beq (n+1) 0 then some a else nth l (n+1-1))=_;rw[show Nat.beq (n+1) 0=false from rfl];exact nth_eq l n
theorem fsOf_ok{ti:TT}{t:TypeId}{f:Nat}{q:Nat×TypeId}(h:fsOf ti t f=some q):∃fs fl,und ti t=.struct fs∧fs[f]?=some fl∧q=(fl.offset,fl.type):=by
 unfold fsOf at h;cases hu:und ti t with
 |struct fs=>
  rw[hu]at h;simp only[nth_eq]at h;cases hf:fs.toList[f]? with
  |none=>rw[hf]at h;cases h
  |some fl=>
   rw[hf]at h;simp only[Option.some.injEq]at h;exact⟨fs,fl,rfl,by simpa using hf,h.symm⟩
 |_=>rw[hu]at h;cases h
theorem fs_mem{fs:Array Field}{f:Nat}{fl:Field}(h:fs[f]?=some fl):fl∈fs.toList:=by
 have:=Array.mem_of_getElem? h;simpa using this
theorem cellsC_ok{a:AV}{C:AV→Res}{R:Res}(h:cellsC a C=R)(hR:R≠.fail):C (cellsA a)=R∧(oneA a=true∨∃t l,a=.k 0 t l):=by
 cases a with
 |un=>exact absurd h.symm hR
 |nil=>exact absurd h.symm hR
 |cons x l=>exact absurd h.symm hR
 |v x=>obtain⟨c,h1⟩:=tst hR h;exact⟨h1,.inl c⟩
 |k g t l=>
  match g with
  |0=>exact⟨h,.inr ⟨t,l,rfl⟩⟩
  |1=>exact absurd h.symm hR
  |g+2=>exact⟨h,.inl rfl⟩
 |_=>exact⟨h,.inl rfl⟩
theorem putV_ok:∀{v l:AV} {C:AV→Res} {R:Res},putV v l C=R→R≠.fail→∃m n,segA 0 v l=some m∧lenL' v=some n∧lenA v=n∧C m=R:=by
 intro v;induction v with
 |nil=>intro l C R h hR;exact⟨l,0,by cases l<;>rfl,rfl,rfl,h⟩
 |cons x k _ ih=>
  intro l C R h hR;obtain⟨y,t,rfl,h1⟩:=asK_ok (C:=fun _ t=>putV k t fun t=>C (.cons x t)) h hR;obtain⟨m,n,h2,h3,h4,h5⟩:=ih h1 hR;exact⟨.cons x m,n+1,by simp[segA,h2],by simp[lenL',h3],by simp[lenA,h4],h5⟩
 |_=>intro l C R h hR;exact absurd h.symm hR
theorem putA_ok:∀{off:Nat} {v l:AV} {C:AV→Res} {R:Res},putA off v l C=R→R≠.fail→∃m n,segA off v l=some m∧lenL' v=some n∧lenA v=n∧C m=R
 |0,v,l,C,R,h,hR=>putV_ok h hR
 |off+1,v,l,C,R,h,hR=>by
  obtain⟨x,t,rfl,h1⟩:=asK_ok (C:=fun x t=>putA off v t fun t=>C (.cons x t)) h hR;obtain⟨m,n,h2,h3,h4,h5⟩:=putA_ok h1 hR;refine⟨.cons x m,n,?_,h3,h4,h5⟩;cases v<;>simp[segA,h2]
def PsOk(s:Sx)(place:Nat→Option (Nat×Nat)):List (Nat×Operand)→List ((Nat×Nat)×OW)→Prop
 |[],[]=>True
 |p::ps,q::qs=>place p.1=some q.1∧q.2=opd s p.2∧PsOk s place ps qs
 |_,_=>False
theorem bldN_ok{s:Sx}{place:Nat→Option (Nat×Nat)}{e:E}{tm:TM}:∀{ps:List (Nat×Operand)} {qs:List ((Nat×Nat)×OW)} {l:AV} {C:AV→Res} {R:Res},PsOk s place ps qs→bldN qs e tm l C=R→R≠.fail→
 ∃m,C m=R∧bldS (fun x=>(opd s x).f e tm) place ps l=some m∧∀p∈ps,oneA ((opd s p.2).f e tm)=true∨∃t k,(opd s p.2).f e tm=.k 0 t k
 |[],[],l,C,R,_,h,hR=>⟨l,h,rfl,fun p hp=>by cases hp⟩
 |p::ps,q::qs,l,C,R,hq,h,hR=>by
  obtain⟨i,x⟩:=p;obtain⟨⟨off,size⟩,y⟩:=q;obtain⟨h1,h2,h3⟩:=hq;simp only at h1 h2;subst h2;obtain⟨h4,h5⟩:=cellsC_ok (C:=fun a=>iB (Nat.beq (lenA a) size) (putA off a l fun l=>bldN qs e tm l C) .fail) h hR;obtain⟨c1,h6⟩:=iB_ok hR h4;obtain⟨m,n,h7,h8,h9,h10⟩:=putA_ok h6 hR;obtain⟨m',h11,h12,h13⟩:=bldN_ok h3 h10 hR;refine⟨m',h11,?_,?_⟩
  ·have hn:n=size:=h9.symm.trans (Nat.eq_of_beq_eq_true c1);simp only[bldS,h1,h8,hn,if_true,h7,h12]
  ·intro p hp;rcases List.mem_cons.1 hp with rfl|hp
   ·exact h5
   ·exact h13 p hp
 |[],_::_,_,_,_,h,_,_=>h.elim
 |_::_,[],_,_,_,h,_,_=>h.elim
theorem prts_ok{s:Sx}{t:TypeId}:∀{ps:List (Nat×Operand)} {qs:List ((Nat×Nat)×OW)},prts s t ps=some qs→PsOk s (plc s.ti t) ps qs
 |[],qs,h=>by simp only[prts,Option.some.injEq]at h;subst h;trivial
 |p::ps,qs,h=>by
  simp only[prts]at h;cases h1:plc s.ti t p.1 with
  |none=>rw[h1]at h;cases h
  |some q=>
   cases h2:prts s t ps with
   |none=>rw[h1,h2]at h;cases h
   |some l=>
    rw[h1,h2]at h;simp only[Option.some.injEq]at h;subst h;exact⟨h1,rfl,prts_ok h2⟩
theorem bldS_mem{ρ ρ':Operand→AV}{place:Nat→Option (Nat×Nat)}:∀{ps:List (Nat×Operand)} {l:AV},(∀p∈ps,ρ' p.2=ρ p.2)→bldS ρ' place ps l=bldS ρ place ps l
 |[],l,_=>rfl
 |p::ps,l,h=>by
  have h0:=h p (List.mem_cons_self ..);have ih:∀l,bldS ρ' place ps l=bldS ρ place ps l:=fun l=>bldS_mem fun q hq=>h q (List.mem_cons_of_mem _ hq);obtain⟨i,x⟩:=p;simp only at h0;simp only[bldS,h0,ih]
open Classical in
noncomputable def only(l:List Operand)(ρ:Operand→AV):Operand→AV:=fun x=>if x∈l then ρ x else .un
theorem only_rv{l:List Operand}{ρ:Operand→AV}{ev:Operand→Value}(h:∀x∈l,RV ι (ρ x) (ev x))(x:Operand):RV ι (only l ρ x) (ev x):=by
 unfold only;split
 ·rename_i hm;exact h x hm
 ·exact⟨_,rfl⟩
theorem only_eq{l:List Operand}{ρ:Operand→AV}{x:Operand}(h:x∈l):only l ρ x=ρ x:=by unfold only;rw[if_pos h]
theorem zeroA_ok{ti:TT}{t:TypeId}{l:AV}{z:Value}(h:zeroA ti t=some l)(hz:(tI ti t).zero=some z)(ht:∀cs,z≠.tuple cs):lenL' l=some z.cells.size∧RL ι l z.cells.toList:=by
 simp only[zeroA,zero1,hz,Option.some.injEq]at h;subst h;by_cases ha:∃cs,z=.agg cs
 ·obtain⟨cs,rfl⟩:=ha;refine⟨?_,rl_of1 _⟩;show lenL' (mkL _)=_;rw[lenL_mkL];simp[Value.cells]
 ·have e:cellsA (ofV z)=.cons (ofV1 z) .nil∧z.cells=#[z]:=by
   cases z with
   |agg cs=>exact absurd ⟨cs,rfl⟩ ha
   |tuple cs=>exact absurd rfl (ht cs)
   |int k n=>simp only[ofV,ofV1];split<;>exact⟨rfl,rfl⟩
   |_=>exact⟨rfl,rfl⟩
  rw[e.1,e.2];exact⟨rfl,_,_,rfl,RV_of1 _,rfl⟩
end Go.Proofs.YtglihimiidiacaaGreatDoor.Ev8
namespace Go.Proofs.YtglihimiidiacaaGreatDoor.Ev8
open Go
variable {P:Program} {ι ι':Io}
theorem run_mapM{α β:Type}{f:α→Sem β}{g:α→β}{w:World}:∀(l:List α),(∀a∈l,(f a).run P w=.ok (g a) w)→(l.mapM f).run P w=.ok (l.map g) w
 |[],_=>by simp[List.mapM_nil,Sem.run_pure]
 |a::l,h=>by
  rw[List.mapM_cons,Sem.run_bind,h a (List.mem_cons_self ..)];simp only[Result.andThen];rw[Sem.run_bind,run_mapM l fun b hb=>h b (List.mem_cons_of_mem _ hb)];rfl
theorem run_mapMA{α β:Type}{f:α→Sem β}{g:α→β}{w:World}(l:Array α)(h:∀a∈l.toList,(f a).run P w=.ok (g a) w):(l.mapM f).run P w=.ok (l.map g) w:=by
 rw[Array.mapM_eq_mapM_toList];have:=run_mapM l.toList h;show((l.toList.mapM f)>>=(Sem.pure∘List.toArray)).run P w=_;rw[Sem.run_bind,this];show Result.ok _ w=_;congr 1
 apply Array.toList_inj.1;simp
theorem plc_struct{ti:TT}{t:TypeId}{fs:Array Field}(h:und ti t=.struct fs)(i:Nat):plc ti t i=(fs.map fun f=>(f.offset,(tI ti f.type).size))[i]?:=by
 simp only[plc,fsOf,h,nth_eq];rw[←Array.getElem?_toList,Array.toList_map,List.getElem?_map];cases fs.toList[i]?<;>rfl
theorem ok_bld{o:Oper}{s:Sx}(T:TyOk P s.ti){t:TypeId}{ps:Array (Nat×Operand)}(ho:o.op=.build t ps)(ht:gT t=true)(hag:aggT s.ti t=true){zl:AV}(hz:zeroA s.ti t=some zl){qs:List ((Nat×Nat)×OW)}(hq:prts s t ps.toList=some qs):OpR P o s fun k=>⟨bldF zl qs k⟩:=by
 intro K X e tm H θ R hO hR h;obtain⟨m,h1,h2,h3⟩:=bldN_ok (prts_ok hq) (C:=fun l=>K.f X (.c (.k 0 0 l) e) tm H) h hR;refine⟨_,h1,fun ι a w hx=>?_⟩;obtain⟨z,hz1,hz2,hz3⟩:=T.zero t ht;obtain⟨-,hl⟩:=zeroA_ok (ι:=ι) hz hz1 hz3;have hm:∀p∈ps.toList,p.2∈o.op.operands.toList:=fun p hp=>by
  rw[ho];simp only[Op.operands,List.toList_toArray];exact List.mem_map.2 ⟨p,hp,rfl⟩
 have hrv:∀x∈o.op.operands.toList,RV ι ((opd s x).f e tm) (a.eval x):=fun x hxm=>hO.rv (hx x hxm);refine rd_bld (ρ:=only o.op.operands.toList fun x=>(opd s x).f e tm) ho (T.zeroValue ht hz1) hl (only_rv hrv) (fun p hp=>by rw[only_eq (hm p hp)];exact h3 p hp) (place:=plc s.ti t) (by rw[bldS_mem fun p hp=>only_eq (hm p hp)];exact h2) fun cells hc=>?_;unfold Instr.build;rw[Sem.run_bind,T.zeroValue ht hz1];simp only[Result.andThen];rw[Sem.run_bind,run_und (T.und t ht)];simp only[Result.andThen];unfold aggT at hag;cases hu:und s.ti t with
 |struct fs=>
  simp only;rw[Sem.run_bind,run_mapMA fs (g:=fun f=>(f.offset,(tI s.ti f.type).size)) fun f hf=>by
   rw[Sem.run_bind,T.sizeOf (T.st t fs ht hu f hf)];rfl]
  simp only[Result.andThen];have:(fun i=>(fs.map fun f=>(f.offset,(tI s.ti f.type).size))[i]?)=plc s.ti t:=funext fun i=>(plc_struct hu i).symm;rw[this,hc];rfl
 |array n el=>
  simp only;rw[Sem.run_bind,T.sizeOf (T.ar t n el ht hu)];simp only[Result.andThen];have:(fun i=>some (i*(tI s.ti el).size,(tI s.ti el).size))=plc s.ti t:=funext fun i=>by simp only[plc,hu];rfl
  rw[this,hc];rfl
 |_=>rw[hu]at hag;cases hag
end Go.Proofs.YtglihimiidiacaaGreatDoor.Ev8
namespace Go.Proofs.YtglihimiidiacaaGreatDoor.Ev8
open Go
variable {P:Program} {ι ι':Io}
theorem tyK_ok{ti:TT}{t:TypeId}:(tyK ti t=1→∃m,und ti t=.interface m)∧(tyK ti t=2→∃e,und ti t=.slice e)∧(tyK ti t=3→∃e,und ti t=.pointer e)∧(tyK ti t=4→und ti t=.bool):=by
 unfold tyK;cases und ti t<;>simp
theorem nilC_ok{op:BinOp}{r:Bool}(h:nilC op=some r):(op=.eql∧r=false)∨(op=.neq∧r=true):=by
 cases op<;>simp[nilC]at h<;>simp[h]
theorem rd_boolB{o:Oper}{ev:Operand→Value}{w:World}{op:BinOp}{t u:TypeId}{x y:Operand}(ho:o.op=.binOp op t x y u)(ht:P.underlying t=some .bool){a b r:Bool}(hx:ev x=.bool a)(hy:ev y=.bool b)(hop:(op=.eql∧r=(a==b))∨(op=.neq∧r=(a !=b))):Rd P ι w ev o (.b r):=by
 refine⟨.bool r,?_,rfl⟩;have hg:(eqGuard op t x y (.bool a) (.bool b)).run P w=.ok () w:=by rcases hop with⟨rfl,rfl⟩|⟨rfl,rfl⟩<;>rfl
 have he:(Op.equal t (.bool a) (.bool b)).run P w=.ok (a==b) w:=by
  obtain⟨d,hd⟩:∃d,Op.maxDepth=d+1:=⟨9999,rfl⟩;unfold Op.equal;rw[hd];simp only[Op.equalIn,Sem.run_bind,run_und ht];rfl
 have hb:(binOp op t (.bool a) (.bool b)).run P w=.ok (.bool r) w:=by
  rcases hop with⟨rfl,rfl⟩|⟨rfl,rfl⟩<;>simp only[binOp,Sem.run_bind,he]<;>rfl
 simp only[execOp,ho,hx,hy,Sem.run_bind,hg,hb,Result.andThen];rfl
theorem lst_rl:∀{l:AV} {la:List AV} {us ws:List Value},lst l=some la→la.mapM val1=some us→RL ι l ws→ws=us
 |.nil,la,us,ws,h1,h2,h3=>by
  simp only[lst,Option.some.injEq]at h1;subst h1;simp only[List.mapM_nil,Option.pure_def,Option.some.injEq]at h2;subst h2;exact h3
 |.cons x l,la,us,ws,h1,h2,h3=>by
  simp only[lst]at h1;cases hl:lst l with
  |none=>rw[hl]at h1;cases h1
  |some la'=>
   rw[hl]at h1;simp only[Option.map_some,Option.some.injEq]at h1;subst h1;simp only[List.mapM_cons,Option.bind_eq_bind,Option.pure_def]at h2;cases hv:val1 x with
   |none=>rw[hv]at h2;cases h2
   |some v=>
    rw[hv]at h2;simp only[Option.bind_some]at h2;cases hm:la'.mapM val1 with
    |none=>rw[hm]at h2;cases h2
    |some vs=>
     rw[hm]at h2;simp only[Option.bind_some,Option.some.injEq]at h2;subst h2;obtain⟨v',ws',rfl,e1,e2⟩:=h3;rw[val1_eq hv e1,lst_rl hl hm e2]
 |.un,_,_,_,h,_,_=>by simp[lst]at h
 |.v _,_,_,_,h,_,_=>by simp[lst]at h
 |.r _ _,_,_,_,h,_,_=>by simp[lst]at h
 |.k _ _ _,_,_,_,h,_,_=>by simp[lst]at h
 |.s _ _,_,_,_,h,_,_=>by simp[lst]at h
 |.sl ..,_,_,_,h,_,_=>by simp[lst]at h
 |.ptr _ _,_,_,_,h,_,_=>by simp[lst]at h
 |.b _,_,_,_,h,_,_=>by simp[lst]at h
 |.i _ _,_,_,_,h,_,_=>by simp[lst]at h
theorem slowB_ok{ti:TT}(T:TyOk P ti){op:BinOp}{t u:TypeId}{x y:Operand}(ht:gT t=true){a b r:AV}(h:slowB P (tyK ti t) op t x y a b=some r){o:Oper}{ev:Operand→Value}{w:World}(ho:o.op=.binOp op t x y u)(hx:RV ι a (ev x))(hy:RV ι b (ev y)):Rd P ι w ev o r:=by
 have hk:=tyK_ok (ti:=ti) (t:=t);have hu:=T.und t ht;unfold slowB at h;split at h
 ·rename_i a b
  cases hc:Nat.beq (tyK ti t) 4 with
  |false=>rw[hc]at h;cases h
  |true=>
   rw[hc]at h;rw[hk.2.2.2 (Nat.eq_of_beq_eq_true hc)]at hu;cases op with
   |eql=>simp only[cond_true,Option.some.injEq]at h;subst h;exact rd_boolB ho hu hx.bool hy.bool (.inl ⟨rfl,rfl⟩)
   |neq=>simp only[cond_true,Option.some.injEq]at h;subst h;exact rd_boolB ho hu hx.bool hy.bool (.inr ⟨rfl,rfl⟩)
   |_=>cases h
 ·rename_i k a k' b
  split at h
  ·rename_i v hv
   simp only[Option.some.injEq]at h;subst h;refine rd_bin ho hx.int.1 hy.int.1 ?_;have e1:(do eqGuard op t x y (.int k a) (.int k' b);binOp op t (.int k a) (.int k' b):Sem Value)=binOp op t (.int k a) (.int k' b):=by
    cases op<;>rfl
   rw[e1];exact hv
  ·cases h
 ·rename_i a b
  split at h
  ·rename_i v hv
   simp only[Option.some.injEq]at h;subst h;exact rd_bin ho hx.vv hy.vv hv
  ·cases h
 ·rename_i ta a tb b
  split at h
  ·rename_i la lb h1 h2
   split at h
   ·rename_i us ws h3 h4
    split at h
    ·rename_i v hv
     simp only[Option.some.injEq]at h;subst h;obtain⟨xs,e1,e2⟩:=hx.agg;obtain⟨ys,e3,e4⟩:=hy.agg;rw[lst_rl h1 h3 e1]at e2;rw[lst_rl h2 h4 e3]at e4;exact rd_bin ho e2 e4 hv
    ·cases h
   ·cases h
  ·cases h
 ·rename_i tt l
  cases hc:Nat.beq (tyK ti t) 1 with
  |false=>rw[hc]at h;cases h
  |true=>
   rw[hc]at h;obtain⟨m,e1⟩:=hk.1 (Nat.eq_of_beq_eq_true hc);rw[e1]at hu;cases hn:nilC op with
   |none=>rw[hn]at h;cases h
   |some r'=>
    rw[hn]at h;simp only[cond_true,Option.map_some,Option.some.injEq]at h;subst h;obtain⟨v,-,e2⟩:=hx.ifc;exact rd_nilc ho (nilC_ok hn) e2 hy.vv (.inl ⟨m,tt,v,hu,.inl ⟨rfl,rfl⟩⟩)
 ·rename_i tt l
  cases hc:Nat.beq (tyK ti t) 1 with
  |false=>rw[hc]at h;cases h
  |true=>
   rw[hc]at h;obtain⟨m,e1⟩:=hk.1 (Nat.eq_of_beq_eq_true hc);rw[e1]at hu;cases hn:nilC op with
   |none=>rw[hn]at h;cases h
   |some r'=>
    rw[hn]at h;simp only[cond_true,Option.map_some,Option.some.injEq]at h;subst h;obtain⟨v,-,e2⟩:=hy.ifc;exact rd_nilc ho (nilC_ok hn) hx.vv e2 (.inl ⟨m,tt,v,hu,.inr ⟨rfl,rfl⟩⟩)
 ·rename_i b e' o' k n c l' c'
  cases hc:Nat.beq (tyK ti t) 2 with
  |false=>rw[hc]at h;cases h
  |true=>
   rw[hc]at h;obtain⟨m,e1⟩:=hk.2.1 (Nat.eq_of_beq_eq_true hc);rw[e1]at hu;cases hn:nilC op with
   |none=>rw[hn]at h;cases h
   |some r'=>
    rw[hn]at h;simp only[cond_true,Option.map_some,Option.some.injEq]at h;subst h;obtain⟨E,-,-,-,e2⟩:=hx.sl;exact rd_nilc ho (nilC_ok hn) e2 hy.vv (.inr (.inl ⟨m,_,_,_,_,_,hu,rfl,rfl⟩))
 ·rename_i b q
  cases hc:Nat.beq (tyK ti t) 3 with
  |false=>rw[hc]at h;cases h
  |true=>
   rw[hc]at h;obtain⟨m,e1⟩:=hk.2.2.1 (Nat.eq_of_beq_eq_true hc);rw[e1]at hu;cases hn:nilC op with
   |none=>rw[hn]at h;cases h
   |some r'=>
    rw[hn]at h;simp only[cond_true,Option.map_some,Option.some.injEq]at h;subst h;obtain⟨E,-,e2⟩:=hx.ptr;exact rd_nilc ho (nilC_ok hn) e2 hy.vv (.inr (.inr ⟨m,_,hu,rfl,rfl⟩))
 ·cases h
theorem ok_binX{o:Oper}{s:Sx}(T:TyOk P s.ti){op:BinOp}{t u:TypeId}{x y:Operand}(ho:o.op=.binOp op t x y u)(ht:gT t=true):OpR P o s fun k=>⟨binXF P (tyK s.ti t) op t x y (opd s x) (opd s y) k⟩:=by
 intro K X e tm H θ R hO hR h;obtain⟨r,h1,h2⟩:=oG_ok h hR;exact⟨r,h2,fun ι a w hx=>slowB_ok T ht h1 ho (hO.rv (hx x (by simp[ho,Op.operands]))) (hO.rv (hx y (by simp[ho,Op.operands])))⟩
end Go.Proofs.YtglihimiidiacaaGreatDoor.Ev8
namespace Go.Proofs.YtglihimiidiacaaGreatDoor.Ev8
open Go
variable {P:Program} {ι ι':Io}
def ldL(d:Nat)(cs:Tr AV d)(n o:Nat):AV:=mkL ((List.range' o n).map fun i=>get d i cs)
theorem ldN_to(d:Nat)(cs:Tr AV d):∀(n o:Nat) (C:AV→Res),ldN d cs n o C=C (ldL d cs n o)
 |0,o,C=>rfl
 |n+1,o,C=>by
  show ldN d cs n (Nat.succ o) (fun l=>C (.cons ((gw AV d o).f cs) l))=_;rw[ldN_to d cs n (Nat.succ o)];simp only[ldL,List.range'_succ,List.map_cons,mkL];rfl
def sts(d:Nat):AV→Nat→Tr AV d→Tr AV d
 |.cons x l,o,cs=>sts d l (o+1) (put d o x cs)
 |_,_,cs=>cs
theorem stN_to(d:Nat):∀{l:AV} {o:Nat} {cs:Tr AV d} {C:Tr AV d→Nat→Res} {R:Res},stN d l o cs C=R→R≠.fail→∃m,lenL' l=some m∧C (sts d l o cs) (o+m)=R:=by
 intro l;induction l with
 |nil=>intro o cs C R h _;exact⟨0,rfl,h⟩
 |cons x l _ ih=>
  intro o cs C R h hR;change (pw AV d o).f x cs (fun cs=>stN d l (Nat.succ o) cs C)=R at h;rw[pw_put]at h;obtain⟨m,h1,h2⟩:=ih h hR;refine⟨m+1,by simp[lenL',h1],?_⟩;rw[show o+(m+1)=Nat.succ o+m by simp only[Nat.succ_eq_add_one];omega];exact h2
 |_=>intro o cs C R h hR;exact absurd h.symm hR
theorem vw_sts(d:Nat):∀{l:AV} {o:Nat} {cs:Tr AV d} {m:Nat},lenL' l=some m→o+m≤4 ^ d→oneL l=true→stS (vw d cs) o l=some (vw d (sts d l o cs)):=by
 intro l;induction l with
 |nil=>intro o cs m _ _ _;rfl
 |cons x l _ ih=>
  intro o cs m h hm h1;simp only[lenL']at h;cases hq:lenL' l with
  |none=>rw[hq]at h;cases h
  |some m'=>
   rw[hq]at h;simp only[Option.map_some,Option.some.injEq]at h;subst h;simp only[oneL,Bool.and_eq_true]at h1;have:=ih (o:=o+1) (cs:=put d o x cs) hq (by omega) h1.2;rw[vw_put d o x cs (by omega)]at this;simp only[stS,h1.1];exact this
 |_=>intro o cs m h;simp[lenL']at h
theorem get_sts(d:Nat):∀{l:AV} {o m i:Nat} {cs:Tr AV d},lenL' l=some m→o+m≤4 ^ d→i<4 ^ d→get d i (sts d l o cs)=if o≤i∧i<o+m then nthA l (i-o) else get d i cs:=by
 intro l;induction l with
 |nil=>
  intro o m i cs h _ _;simp only[lenL',Option.some.injEq]at h;subst h;rw[if_neg (by omega)];rfl
 |cons x l _ ih=>
  intro o m i cs h hm hi;simp only[lenL']at h;cases hq:lenL' l with
  |none=>rw[hq]at h;cases h
  |some m'=>
   rw[hq]at h;simp only[Option.map_some,Option.some.injEq]at h;subst h;show get d i (sts d l (o+1) (put d o x cs))=_;rw[ih hq (by omega) hi];by_cases e:i=o
   ·subst e;rw[if_neg (by omega),if_pos (by omega),get_put];simp[nthA]
   ·rw[get_put_ne d x cs (by omega) hi (Ne.symm e)];by_cases hin:o+1≤i∧i<o+1+m'
    ·rw[if_pos hin,if_pos (by omega),show i-o=(i-(o+1))+1 by omega];rfl
    ·rw[if_neg hin,if_neg (by omega)]
 |_=>intro o m i cs h;simp[lenL']at h
theorem chk1_ok{a:AV}{C:Unit→Res}{R:Res}(h:chk1 a C=R)(hR:R≠.fail):C ()=R∧oneA a=true:=by
 cases a with
 |un=>exact absurd h.symm hR
 |nil=>exact absurd h.symm hR
 |cons x l=>exact absurd h.symm hR
 |v x=>obtain⟨a,b⟩:=tst hR h;exact⟨b,a⟩
 |k g t l=>obtain⟨a,b⟩:=tst hR h;exact⟨b,a⟩
 |_=>exact⟨h,rfl⟩
theorem chkL_ok:∀{l:AV} {C:Unit→Res} {R:Res},chkL l C=R→R≠.fail→C ()=R∧oneL l=true:=by
 intro l;induction l with
 |nil=>exact fun h _=>⟨h,rfl⟩
 |cons x l _ ih=>
  intro C R h hR;obtain⟨h1,h2⟩:=chk1_ok (C:=fun _=>chkL l C) h hR;obtain⟨h3,h4⟩:=ih h1 hR;exact⟨h3,by simp[oneL,h2,h4]⟩
 |_=>intro C R h hR;exact absurd h.symm hR
theorem row_ok{B:Blk}{f2:Option TypeId→Tr AV 2→Nat→Res}{f6:Option TypeId→Tr AV 6→Nat→Res}{R:Res}(hR:R≠.fail)
 (h:Blk.rec (motive:=fun _=>Res) .fail (fun _ _ _ _ _ _=>.fail) (fun _=>.fail) f2 f6 (fun _=>.fail) B=R):(∃τ cs n,f2 τ cs n=R∧B=.s τ cs n)∨(∃τ cs n,f6 τ cs n=R∧B=.c τ cs n):=by
 cases B with
 |s τ cs n=>exact .inl ⟨τ,cs,n,h,rfl⟩
 |c τ cs n=>exact .inr ⟨τ,cs,n,h,rfl⟩
 |_=>exact absurd h.symm hR
theorem ldG_ok{q:Nat}{H:HS}{C:AV→Res}{a:AV}{R:Res}(h:ldG q H C a=R)(hR:R≠.fail):∃b o f n,a=.ptr b o∧Row H b f n∧o+q<n∧C (f (o+q))=R:=by
 cases a with
 |ptr b o=>
  rcases row_ok hR h with⟨τ,cs,n,h1,hB⟩|⟨τ,cs,n,h1,hB⟩
  ·obtain⟨c1,h2⟩:=tst hR h1;exact⟨b,o,_,n,rfl,.inl ⟨τ,cs,hB,rfl⟩,blt_lt c1,h2⟩
  ·obtain⟨c1,h2⟩:=tst hR h1;exact⟨b,o,_,n,rfl,.inr ⟨τ,cs,hB,rfl⟩,blt_lt c1,h2⟩
 |_=>exact absurd h.symm hR
theorem lAG_ok{q m:Nat}{H:HS}{C:AV→Res}{a:AV}{R:Res}(h:lAG q m H C a=R)(hR:R≠.fail):∃b o f n,a=.ptr b o∧Row H b f n∧o+q+m≤n∧C (.k 0 0 (mkL ((List.range' (o+q) m).map f)))=R:=by
 cases a with
 |ptr b o=>
  rcases row_ok hR h with⟨τ,cs,n,h1,hB⟩|⟨τ,cs,n,h1,hB⟩
  ·obtain⟨c1,h2⟩:=tst hR h1;rw[ldN_to]at h2;exact⟨b,o,_,n,rfl,.inl ⟨τ,cs,hB,rfl⟩,Nat.le_of_ble_eq_true c1,h2⟩
  ·obtain⟨c1,h2⟩:=tst hR h1;rw[ldN_to]at h2;exact⟨b,o,_,n,rfl,.inr ⟨τ,cs,hB,rfl⟩,Nat.le_of_ble_eq_true c1,h2⟩
 |_=>exact absurd h.symm hR
theorem ok_ld1{o:Oper}{s:Sx}{t:TypeId}{x:Operand}(ho:o.op=.load t x)(ht:∀w,(isAgg t).run P w=.ok false w):OpL P o s fun k=>⟨ld1F (opd s x) k⟩:=by
 intro K X e tm H θ R hO hR h;obtain⟨b,q,f,n,h1,h2,h3,h4⟩:=ldG_ok (C:=fun v=>K.f X (.c v e) tm H) h hR;exact⟨_,h4,t,x,b,q,f,n,ho,hO.is h1 (by simp),fun _=>h2,.inl ⟨ht,h3,rfl⟩⟩
theorem ok_ldA{o:Oper}{s:Sx}{t:TypeId}{x:Operand}{m:Nat}(ho:o.op=.load t x)(ht:∀w,(isAgg t).run P w=.ok true w)(hz:∀w,(Go.sizeOf t).run P w=.ok m w):OpL P o s fun k=>⟨ldAF m (opd s x) k⟩:=by
 intro K X e tm H θ R hO hR h;obtain⟨b,q,f,n,h1,h2,h3,h4⟩:=lAG_ok (C:=fun v=>K.f X (.c v e) tm H) h hR;exact⟨_,h4,t,x,b,q,f,n,ho,hO.is h1 (by simp),fun _=>h2,.inr ⟨m,ht,hz,h3,rfl⟩⟩
def Row1(h:Tr Blk 7)(b o:Nat)(v:AV)(B:Blk):Prop:=(∃τ cs n,get 7 b h=.s τ cs n∧o<n∧B=.s τ (put 2 o v cs) n)∨(∃τ cs n,get 7 b h=.c τ cs n∧o<n∧B=.c τ (put 6 o v cs) n)
def RowA(h:Tr Blk 7)(b o m:Nat)(l:AV)(B:Blk):Prop:=(∃τ cs n,get 7 b h=.s τ cs n∧o+m≤n∧B=.s τ (sts 2 l o cs) n)∨(∃τ cs n,get 7 b h=.c τ cs n∧o+m≤n∧B=.c τ (sts 6 l o cs) n)
theorem spG_ok{q:Nat}{C:Tr Blk 7→Res}{v:AV}{h:Tr Blk 7}{a:AV}{R:Res}(hh:spG q C v h a=R)(hR:R≠.fail):∃b o B,a=.ptr b o∧Row1 h b (o+q) v B∧C (put 7 b B h)=R:=by
 cases a with
 |ptr b o=>
  rcases row_ok hR hh with⟨τ,cs,n,h1,hB⟩|⟨τ,cs,n,h1,hB⟩
  ·obtain⟨c1,h2⟩:=tst hR h1;rw[pw_put,pw_put]at h2;exact⟨b,o,_,rfl,.inl ⟨τ,cs,n,hB,blt_lt c1,rfl⟩,h2⟩
  ·obtain⟨c1,h2⟩:=tst hR h1;rw[pw_put,pw_put]at h2;exact⟨b,o,_,rfl,.inr ⟨τ,cs,n,hB,blt_lt c1,rfl⟩,h2⟩
 |_=>exact absurd hh.symm hR
theorem sAG_ok{q m:Nat}{C:Tr Blk 7→Res}{h:Tr Blk 7}{a v:AV}{R:Res}(hh:sAG q m C h a v=R)(hR:R≠.fail):∃z l b o B,v=.k 0 z l∧a=.ptr b o∧oneL l=true∧lenL' l=some m∧RowA h b (o+q) m l B∧C (put 7 b B h)=R:=by
 cases v with
 |k g z l=>
  obtain⟨c0,h0⟩:=tst hR hh;have hg:g=0:=Nat.eq_of_beq_eq_true c0;subst hg;obtain⟨h0,h1L⟩:=chkL_ok (C:=fun _=>sAL q m C h l a) h0 hR;cases a with
  |ptr b o=>
   rcases row_ok hR h0 with⟨τ,cs,n,h1,hB⟩|⟨τ,cs,n,h1,hB⟩
   ·obtain⟨c1,h2⟩:=tst hR h1;obtain⟨m',hl,h3⟩:=stN_to 2 h2 hR;obtain⟨c2,h4⟩:=tst hR h3;have hm:o+q+m'=o+q+m:=Nat.eq_of_beq_eq_true c2;have hm':m'=m:=by omega
    subst hm';rw[pw_put]at h4;exact⟨z,l,b,o,_,rfl,rfl,h1L,hl,.inl ⟨τ,cs,n,hB,Nat.le_of_ble_eq_true c1,rfl⟩,h4⟩
   ·obtain⟨c1,h2⟩:=tst hR h1;obtain⟨m',hl,h3⟩:=stN_to 6 h2 hR;obtain⟨c2,h4⟩:=tst hR h3;have hm:o+q+m'=o+q+m:=Nat.eq_of_beq_eq_true c2;have hm':m'=m:=by omega
    subst hm';rw[pw_put]at h4;exact⟨z,l,b,o,_,rfl,rfl,h1L,hl,.inr ⟨τ,cs,n,hB,Nat.le_of_ble_eq_true c1,rfl⟩,h4⟩
  |_=>exact absurd h0.symm hR
 |_=>exact absurd hh.symm hR
theorem bs_st1{o:Oper}{t:TypeId}{x y:Operand}(ho:o.op=.store t x y)(hz:∀w,(Go.sizeOf t).run P w=.ok 1 w){θ:Te}{h:Tr Blk 7}{nx b q:Nat}{v:AV}(hx:aev θ x=.ptr b q)(hy:aev θ y=v)(h1:oneA v=true){B:Blk}(hB:Row1 h b q v B):BStep P θ ⟨h,nx⟩ o (.v undef) ⟨put 7 b B h,nx⟩:=by
 intro ι a w hr hO;have h2:=hO x (by simp[ho,Op.operands]);have h4:=hO y (by simp[ho,Op.operands]);rw[hx]at h2;rw[hy]at h4;obtain⟨E,hE,-⟩:=h2.ptr;obtain⟨hh,hok⟩:=hr.at hE;have hb:=hr.blt hE;rcases hB with⟨τ,cs,n,hB,hq,rfl⟩|⟨τ,cs,n,hB,hq,rfl⟩
 ·rw[hB]at hok hh;have hok':n≤16:=hok;refine St.wr hr hb (B:=.s τ (put 2 q v cs) n) hok hr.nx ?_;show Wr P ι (hp h) w a.eval o _ (upd (hp h) b (.c τ (vw 2 (put 2 q v cs)) n)) nx;rw[vw_put 2 q v cs (by omega)];exact wr_st1 ho hr.rel h2 h4 h1 hh hq hz
 ·rw[hB]at hok hh;have hok':n≤4096:=hok;refine St.wr hr hb (B:=.c τ (put 6 q v cs) n) hok hr.nx ?_;show Wr P ι (hp h) w a.eval o _ (upd (hp h) b (.c τ (vw 6 (put 6 q v cs)) n)) nx;rw[vw_put 6 q v cs (by omega)];exact wr_st1 ho hr.rel h2 h4 h1 hh hq hz
theorem bs_stA{o:Oper}{t:TypeId}{x y:Operand}{m z:Nat}{l:AV}(ho:o.op=.store t x y)(hz:∀w,(Go.sizeOf t).run P w=.ok m w){θ:Te}{h:Tr Blk 7}{nx b q:Nat}(hx:aev θ x=.ptr b q)(hy:aev θ y=.k 0 z l)(h1:oneL l=true)(hl:lenL' l=some m){B:Blk}(hB:RowA h b q m l B):BStep P θ ⟨h,nx⟩ o (.v undef) ⟨put 7 b B h,nx⟩:=by
 intro ι a w hr hO;have h2:=hO x (by simp[ho,Op.operands]);have h4:=hO y (by simp[ho,Op.operands]);rw[hx]at h2;rw[hy]at h4;obtain⟨E,hE,-⟩:=h2.ptr;obtain⟨hh,hok⟩:=hr.at hE;have hb:=hr.blt hE;have hlen:∀vs,RL ι l vs→vs.length=m:=fun vs hv=>(RL.len hl hv).1;rcases hB with⟨τ,cs,n,hB,hq,rfl⟩|⟨τ,cs,n,hB,hq,rfl⟩
 ·rw[hB]at hok hh;have hok':n≤16:=hok;refine St.wr hr hb (B:=.s τ (sts 2 l q cs) n) hok hr.nx ?_;exact wr_stA ho hr.rel h2 h4 hh (vw_sts 2 hl (by omega) h1) hlen hq hz
 ·rw[hB]at hok hh;have hok':n≤4096:=hok;refine St.wr hr hb (B:=.c τ (sts 6 l q cs) n) hok hr.nx ?_;exact wr_stA ho hr.rel h2 h4 hh (vw_sts 6 hl (by omega) h1) hlen hq hz
theorem ok_st1{o:Oper}{s:Sx}{t:TypeId}{x y:Operand}(ho:o.op=.store t x y)(hz:∀w,(Go.sizeOf t).run P w=.ok 1 w):OpB P o s fun k=>⟨st1F (opd s x) (opd s y) k⟩:=by
 intro K X e tm H θ R hO hR h;obtain⟨hh,nx⟩:=H;change chk1 ((opd s y).f e tm) (fun _=>spG 0 (fun h=>K.f X (.c (.v undef) e) tm ⟨h,nx⟩) ((opd s y).f e tm) hh ((opd s x).f e tm))=R at h;obtain⟨h3,h4⟩:=chk1_ok h hR;obtain⟨b,q,B,h5,h6,h7⟩:=spG_ok (C:=fun h=>K.f X (.c (.v undef) e) tm ⟨h,nx⟩) h3 hR;exact⟨_,_,h7,bs_st1 ho hz (hO.is h5 (by simp)) (hO.is rfl (fun q=>by rw[q]at h4;cases h4)) h4 h6⟩
theorem ok_stA{o:Oper}{s:Sx}{t:TypeId}{x y:Operand}{m:Nat}(ho:o.op=.store t x y)(hz:∀w,(Go.sizeOf t).run P w=.ok m w):OpB P o s fun k=>⟨stAF m (opd s x) (opd s y) k⟩:=by
 intro K X e tm H θ R hO hR h;obtain⟨hh,nx⟩:=H;obtain⟨z,l,b,q,B,h1,h2,h3,h4,h5,h6⟩:=sAG_ok (C:=fun h=>K.f X (.c (.v undef) e) tm ⟨h,nx⟩) h hR;exact⟨_,_,h6,bs_stA ho hz (hO.is h2 (by simp)) (hO.is h1 (by simp)) h3 h4 h5⟩
end Go.Proofs.YtglihimiidiacaaGreatDoor.Ev8
namespace Go.Proofs.YtglihimiidiacaaGreatDoor.Ev8
open Go
variable {P:Program} {ι ι':Io}
theorem lenA_of:∀{l:AV} {n:Nat},lenL' l=some n→lenA l=n:=by
 intro l;induction l with
 |nil=>intro n h;simp only[lenL',Option.some.injEq]at h;subst h;rfl
 |cons x l _ ih=>
  intro n h;simp only[lenL']at h;cases hq:lenL' l with
  |none=>rw[hq]at h;cases h
  |some m=>rw[hq]at h;simp only[Option.map_some,Option.some.injEq]at h;subst h;simp[lenA,ih hq]
 |_=>intro n h;simp[lenL']at h
def BlkOf(qq:Option TypeId)(l:AV)(n:Nat)(B:Blk):Prop:=bOk B∧lenL' l=some n∧∃f,hv B=.c qq f n∧∀i,i<n→f i=nthA l i
theorem newB_ok{qq:Option TypeId}{l:AV}{h:Tr Blk 7}{nx:Nat}{C:Tr Blk 7→Nat→Res}{R:Res}(hh:newB qq l h nx C=R)(hR:R≠.fail):∃B n,nx<16384∧n≤4096∧BlkOf qq l n B∧C (put 7 nx B h) (nx+1)=R:=by
 obtain⟨c1,h1⟩:=iB_ok hR hh;have hnx:=blt_lt c1;cases c2:Nat.ble (lenA l) 16 with
 |true=>
  rw[c2,iB_t]at h1;obtain⟨n,hl,h2⟩:=stN_to 2 h1 hR;rw[fN_eq,pw_put,fN_eq,Nat.zero_add]at h2;have hn:n≤16:=by rw[←lenA_of hl];exact Nat.le_of_ble_eq_true c2
  generalize hT:eTr AV.un 2=T0 at h2;have hb:BlkOf qq l n (.s qq (sts 2 l 0 T0) n):=by
   refine⟨hn,hl,vw 2 (sts 2 l 0 T0),rfl,fun i hi=>?_⟩;rw[vw_get (by omega),get_sts 2 hl (by omega) (by omega),if_pos (by omega)];rfl
  exact⟨_,n,hnx,by omega,hb,h2⟩
 |false=>
  rw[c2,iB_f]at h1;obtain⟨c3,h1⟩:=iB_ok hR h1;obtain⟨n,hl,h2⟩:=stN_to 6 h1 hR;rw[fN_eq,pw_put,fN_eq,Nat.zero_add]at h2;have hn:n≤4096:=by rw[←lenA_of hl];exact Nat.le_of_ble_eq_true c3
  generalize hT:eTr AV.un 6=T0 at h2;have hb:BlkOf qq l n (.c qq (sts 6 l 0 T0) n):=by
   refine⟨hn,hl,vw 6 (sts 6 l 0 T0),rfl,fun i hi=>?_⟩;rw[vw_get (by omega),get_sts 6 hl (by omega) (by omega),if_pos (by omega)];rfl
  exact⟨_,n,hnx,by omega,hb,h2⟩
def NF(P:Program)(θ:Te)(o:Oper)(mk:Nat→Value)(t:TypeId)(l:AV):Prop:=∀ι a w,Ops ι θ o a→∃us:List Value,(execOp a.eval o).run P w=.ok (.value (mk w.heap.size)) {w with heap:=w.heap.push (.cells us.toArray t)}∧RL ι l us
def NStep(P:Program)(θ:Te)(H:HS)(o:Oper)(u:AV)(H':HS):Prop:=∃B t l n mk,H'=⟨put 7 H.nx B H.h,H.nx+1⟩∧H.nx<16384∧BlkOf (some t) l n B∧(∀ι E,ι H.nx=some E→E.d=0→RV ι u (mk E.b))∧NF P θ o mk t l
theorem Go1.blk{h0 h:Hp}{w w':World}{b n:Nat}{B:Blk}{τ:Option TypeId}{l:AV}{nx':Nat}(g:Go1 ι h0 w ι' (upd h b (.c τ (nthA l) n)) nx' w')(hB:∃f,hv B=.c τ f n∧∀i,i<n→f i=nthA l i):Go1 ι h0 w ι' (upd h b (hv B)) nx' w':=by
 obtain⟨f,h1,h2⟩:=hB;have:=g.cong (b:=b) (τ':=τ) (cs':=f) (upd_same _ _ _) (.inl rfl) h2;rw[upd_upd]at this;rw[h1];exact this
theorem NStep.b{θ:Te}{H H':HS}{o:Oper}{u:AV}(h:NStep P θ H o u H'):BStep P θ H o u H':=by
 obtain⟨B,t,l,n,mk,rfl,hnx,⟨hb,hl,hB⟩,hu,hf⟩:=h;intro ι a w hr hO;obtain⟨us,h1,h2⟩:=hf ι a w hO;obtain⟨hh,nx⟩:=H;have g:=hr.rel.row (w':={w with heap:=w.heap.push (.cells us.toArray t)}) (ws:=[]) (t:=t) (fr:=(0,0)) hl h2 (by simp) (fun i _=>by simp) 0;have g':=g.blk (B:=B) hB;refine⟨_,_,_,_,h1,.inl rfl,hu _ _ (upd_same _ _ _) rfl,hr.put hnx hb (by show nx+1≤16384;exact hnx) g'.le g'.rel (hr.sn.go g'),?_⟩;show Go1 ι (hp hh) w _ (hp (put 7 nx B hh)) (nx+1) _;rw[hp_put B hh hnx];exact g'
def OpN(P:Program)(o:Oper)(s:Sx)(f:WR→WR):Prop:=
 ∀(K:WR) (X:Cx) (e:E) (tm:TM) (H:HS) (θ:Te) (R:Res),OV s θ e tm→R≠.fail→(f K).f X e tm H=R→∃u H',K.f X (.c u e) tm H'=R∧NStep P θ H o u H'
theorem ptr_mk{nx:Nat}(ι:Io)(E:Ent)(h:ι nx=some E)(hd:E.d=0):RV ι (.ptr nx 0) (.pointer (some ⟨E.b,0,none⟩)):=⟨E,h,by rw[hd]⟩
theorem ok_all{o:Oper}{s:Sx}{t:TypeId}(ho:o.op=.alloc t){z:Value}(hz:∀w,(zeroValue t).run P w=.ok z w){l:AV}(hl:∀ι,RL ι l z.cells.toList):OpN P o s fun k=>⟨allF t l k⟩:=by
 intro K X e tm H θ R hO hR h;obtain⟨hh,nx⟩:=H;obtain⟨B,n,h1,h2,h3,h4⟩:=newB_ok (C:=fun h nx2=>K.f X (.c (.ptr nx 0) e) tm ⟨h,nx2⟩) h hR;refine⟨_,_,h4,B,t,l,n,fun b=>.pointer (some ⟨b,0,none⟩),rfl,h1,h3,fun ι E hE hd=>ptr_mk ι E hE hd,fun ι a w hx=>⟨z.cells.toList,?_,hl ι⟩⟩;simp only[execOp,ho,Instr.alloc,Sem.run_bind,hz,Result.andThen];rfl
theorem ok_box{o:Oper}{s:Sx}{t:TypeId}{x:Operand}(ho:o.op=.box t x):OpN P o s fun k=>⟨boxF t (opd s x) k⟩:=by
 intro K X e tm H θ R hO hR h;obtain⟨hh,nx⟩:=H;change cellsC ((opd s x).f e tm) (fun a=>newB (some t) a hh nx fun h nx2=>K.f X (.c (.ptr nx 0) e) tm ⟨h,nx2⟩)=R at h;obtain⟨h0,h1⟩:=cellsC_ok h hR;obtain⟨B,n,h2,h3,h4,h5⟩:=newB_ok h0 hR;refine⟨_,_,h5,B,t,cellsA ((opd s x).f e tm),n,fun b=>.pointer (some ⟨b,0,none⟩),rfl,h2,h4,fun ι E hE hd=>ptr_mk ι E hE hd,fun ι a w hx=>⟨(a.eval x).cells.toList,?_,cells_rl ⟨n,h4.2.1⟩ h1 (hO.rv (hx x (by simp[ho,Op.operands])))⟩⟩;simp only[execOp,ho,Instr.box];rfl
theorem run_bsl{o:Oper}{ev:Operand→Value}{ρ:Operand→AV}{w:World}{t el:TypeId}{len:Nat}{ps:Array (Nat×Operand)}(ho:o.op=.buildSlice t len ps)(ht:P.underlying t=some (.slice el)){i:TypeInfo}(hi:P.info? el=some i){z:Value}(hz:i.zero=some z)(hzs:z.cells.size=i.size)(hpos:0<i.size)
 (hlen:len*i.size≤16777216) {zl m:AV} (hzl:lenL' zl=some z.cells.size) (hzr:RL ι zl z.cells.toList) (hx:∀x,RV ι (ρ x) (ev x)) (hone:∀p∈ps.toList,oneA (ρ p.2)=true∨∃t k,ρ p.2=.k 0 t k)
 (hb:bldS ρ (fun j=>some (j*i.size,i.size)) ps.toList (repA zl len .nil)=some m):∃us:List Value,(execOp ev o).run P w=.ok (.value (.slice (some ⟨w.heap.size,0,none⟩) len len)) {w with heap:=w.heap.push (.cells us.toArray el)}∧RL ι m us:=by
 have hrep:=rep_rl hzl (by omega) hzr len;obtain⟨us,f1,f2,f3⟩:=bld_rl hx hb hrep hone;refine⟨us,?_,f2⟩;have hzv:∀w,(zeroValue el).run P w=.ok z w:=fun w=>by simp[zeroValue,Sem.run_bind,run_info hi,Result.andThen,hz]
 simp only[execOp,ho,Instr.buildSlice,Sem.run_bind,run_und ht,Result.andThen,Go.sizeOf,run_info hi,Sem.run_pure,if_neg (show ¬len*i.size>2 ^ 24 by rw[show(2:Nat) ^ 24=16777216 by decide];omega)];rw[hzs]at f1;by_cases h0:len*i.size=0
 ·rw[if_pos h0];simp only[Sem.run_bind,Sem.run_pure,Result.andThen,Array.toList_map];have e0:(Array.map (fun x=>(#[]:Array Value)[x % (#[]:Array Value).size]!) (Array.range (len*i.size)))=((Array.range (len*i.size)).map (z.cells[·% i.size]!)).toList.toArray:=by rw[h0];apply Array.toList_inj.1;simp
  rw[e0,f1];rfl
 ·rw[if_neg h0];simp only[Sem.run_bind,Sem.run_pure,Result.andThen,Array.toList_map,hzv,hzs];have e0:(Array.map (fun x=>z.cells[x % i.size]!) (Array.range (len*i.size)))=((Array.range (len*i.size)).map (z.cells[·% i.size]!)).toList.toArray:=by rw[Array.toArray_toList]
  rw[e0,f1];rfl
theorem segA_len:∀{off:Nat} {k l m:AV} {n:Nat},segA off k l=some m→lenL' l=some n→lenL' m=some n
 |0,.nil,l,m,n,h,hl=>by cases l<;>simp only[segA,Option.some.injEq]at h<;>subst h<;>exact hl
 |0,.cons x k,.cons y l,m,n,h,hl=>by
  simp only[segA]at h;cases hq:segA 0 k l with
  |none=>rw[hq]at h;cases h
  |some m'=>
   rw[hq]at h;simp only[Option.map_some,Option.some.injEq]at h;subst h;simp only[lenL']at hl ⊢;cases hl':lenL' l with
   |none=>rw[hl']at hl;cases hl
   |some n'=>rw[hl']at hl;rw[segA_len hq hl'];exact hl
 |off+1,k,.cons y l,m,n,h,hl=>by
  have h:(segA off k l).map (.cons y)=some m:=by cases k<;>exact h
  cases hq:segA off k l with
  |none=>rw[hq]at h;cases h
  |some m'=>
   rw[hq]at h;simp only[Option.map_some,Option.some.injEq]at h;subst h;simp only[lenL']at hl ⊢;cases hl':lenL' l with
   |none=>rw[hl']at hl;cases hl
   |some n'=>rw[hl']at hl;rw[segA_len hq hl'];exact hl
 |0,.cons x k,.un,m,n,h,hl=>by simp[segA]at h
 |0,.cons x k,.nil,m,n,h,hl=>by simp[segA]at h
 |0,.cons x k,.v _,m,n,h,hl=>by simp[segA]at h
 |0,.cons x k,.r _ _,m,n,h,hl=>by simp[segA]at h
 |0,.cons x k,.k _ _ _,m,n,h,hl=>by simp[segA]at h
 |0,.cons x k,.s _ _,m,n,h,hl=>by simp[segA]at h
 |0,.cons x k,.sl ..,m,n,h,hl=>by simp[segA]at h
 |0,.cons x k,.ptr _ _,m,n,h,hl=>by simp[segA]at h
 |0,.cons x k,.b _,m,n,h,hl=>by simp[segA]at h
 |0,.cons x k,.i _ _,m,n,h,hl=>by simp[segA]at h
 |0,.un,l,m,n,h,hl=>by simp[segA]at h
 |0,.v _,l,m,n,h,hl=>by simp[segA]at h
 |0,.r _ _,l,m,n,h,hl=>by simp[segA]at h
 |0,.k _ _ _,l,m,n,h,hl=>by simp[segA]at h
 |0,.s _ _,l,m,n,h,hl=>by simp[segA]at h
 |0,.sl ..,l,m,n,h,hl=>by simp[segA]at h
 |0,.ptr _ _,l,m,n,h,hl=>by simp[segA]at h
 |0,.b _,l,m,n,h,hl=>by simp[segA]at h
 |0,.i _ _,l,m,n,h,hl=>by simp[segA]at h
 |off+1,k,.nil,m,n,h,hl=>by simp[segA]at h
 |off+1,k,.un,m,n,h,hl=>by simp[segA]at h
 |off+1,k,.v _,m,n,h,hl=>by simp[segA]at h
 |off+1,k,.r _ _,m,n,h,hl=>by simp[segA]at h
 |off+1,k,.k _ _ _,m,n,h,hl=>by simp[segA]at h
 |off+1,k,.s _ _,m,n,h,hl=>by simp[segA]at h
 |off+1,k,.sl ..,m,n,h,hl=>by simp[segA]at h
 |off+1,k,.ptr _ _,m,n,h,hl=>by simp[segA]at h
 |off+1,k,.b _,m,n,h,hl=>by simp[segA]at h
 |off+1,k,.i _ _,m,n,h,hl=>by simp[segA]at h
theorem bldS_len{ρ:Operand→AV}{place:Nat→Option (Nat×Nat)}:∀{ps:List (Nat×Operand)} {l m:AV} {n:Nat},bldS ρ place ps l=some m→lenL' l=some n→lenL' m=some n
 |[],l,m,n,h,hl=>by simp only[bldS,Option.some.injEq]at h;subst h;exact hl
 |(i,x)::ps,l,m,n,h,hl=>by
  simp only[bldS]at h;split at h
  ·split at h
   ·split at h
    ·rename_i l2 hs;exact bldS_len h (segA_len hs hl)
    ·cases h
   ·cases h
  ·cases h
theorem ok_bsl{o:Oper}{s:Sx}(T:TyOk P s.ti){t el:TypeId}{len:Nat}{ps:Array (Nat×Operand)}(ho:o.op=.buildSlice t len ps)(ht:gT t=true)(hu:und s.ti t=.slice el){zl:AV}(hz:zeroA s.ti el=some zl){qs:List ((Nat×Nat)×OW)}(hq:prts s t ps.toList=some qs):OpN P o s fun k=>⟨bslF el (repA zl len .nil) (tI s.ti el).size len qs k⟩:=by
 intro K X e tm H θ R hO hR h;obtain⟨hh,nx⟩:=H;have hel:=T.sl t el ht hu;have hpl:plc s.ti t=fun j=>some (j*(tI s.ti el).size,(tI s.ti el).size):=funext fun j=>by simp only[plc,hu];rfl
 have hps:=prts_ok hq;rw[hpl]at hps;obtain⟨m,h1,h2,h3⟩:=bldN_ok hps (C:=fun l=>newB (some el) l hh nx fun h nx2=>K.f X (.c (.sl nx (tI s.ti el).size 0 0 len (some len)) e) tm ⟨h,nx2⟩) h hR;obtain⟨B,n,h4,h5,h6,h7⟩:=newB_ok h1 hR;obtain⟨z,hz1,hz2,hz3⟩:=T.zero el hel;have hpos:=T.pos el hel;refine⟨_,_,h7,B,el,m,n,fun b=>.slice (some ⟨b,0,none⟩) len len,rfl,h4,h6,fun ι E hE hd=>⟨E,hE,Nat.le_refl _,fun hn=>(by cases hn),?_⟩,fun ι a w hx=>?_⟩
 ·show [Value.slice _ _ _]=[Value.slice _ _ len];rw[hd];simp
 ·obtain⟨hzl,hzr⟩:=zeroA_ok (ι:=ι) hz hz1 hz3;have hlen:lenL' m=some (len*(tI s.ti el).size):=by
   refine bldS_len h2 ?_;have:=(repA_len hzl (by omega) len).1;rw[hz2]at this;exact this
  have hn:n=len*(tI s.ti el).size:=by have:=h6.2.1;rw[hlen]at this;exact(Option.some.inj this).symm
  have hm:∀p∈ps.toList,p.2∈o.op.operands.toList:=fun p hp=>by
   rw[ho];simp only[Op.operands,List.toList_toArray];exact List.mem_map.2 ⟨p,hp,rfl⟩
  have hrv:∀x∈o.op.operands.toList,RV ι ((opd s x).f e tm) (a.eval x):=fun x hxm=>hO.rv (hx x hxm);exact run_bsl (ρ:=only o.op.operands.toList fun x=>(opd s x).f e tm) ho (by rw[T.und t ht,hu]) (T.info el hel) hz1 hz2 hpos (by omega) hzl hzr (only_rv hrv) (fun p hp=>by rw[only_eq (hm p hp)];exact h3 p hp) (by rw[bldS_mem fun p hp=>only_eq (hm p hp)];exact h2)
end Go.Proofs.YtglihimiidiacaaGreatDoor.Ev8
namespace Go.Proofs.YtglihimiidiacaaGreatDoor.Ev8
open Go
variable {P:Program} {ι ι':Io}
theorem St.new{h:Tr Blk 7}{nx n:Nat}{B:Blk}{l:AV}{τ:Option TypeId}{w:World}{ev:Operand→Value}{o:Oper}{u:AV}(hr:HR ι ⟨h,nx⟩ w)(hnx:nx<16384)(hB:BlkOf τ l n B)(hw:Wr P ι (hp h) w ev o u (upd (hp h) nx (.c τ (nthA l) n)) (nx+1)):St P ι ⟨h,nx⟩ w ev o u ⟨Ev8.put 7 nx B h,nx+1⟩:=by
 obtain⟨r,w',ι',v,h1,h2,h3,h4⟩:=hw;exact St.wr hr hnx hB.1 hnx ⟨r,w',ι',v,h1,h2,h3,h4.blk hB.2.2⟩
theorem ok_mks{o:Oper}{s:Sx}(T:TyOk P s.ti){t el:TypeId}{x y:Operand}(ho:o.op=.makeSlice t x y)(ht:gT t=true)(hu:und s.ti t=.slice el){zl:AV}(hz:zeroA s.ti el=some zl):OpB P o s fun k=>⟨mksF el zl (tI s.ti el).size (opd s x) (opd s y) k⟩:=by
 intro K X e tm H θ R hO hR h;obtain⟨hh,nx⟩:=H;obtain⟨k1,n,e1,h1⟩:=aN_ok h hR;obtain⟨k2,m,e2,h2⟩:=aN_ok h1 hR;obtain⟨c0,h3⟩:=tst hR h2;obtain⟨c1,c2⟩:=and_ok c0;have hnm:n=m:=Nat.eq_of_beq_eq_true c1;subst hnm;obtain⟨B,n',h4,h5,h6,h7⟩:=newB_ok (C:=fun h nx2=>K.f X (.c (.sl nx (tI s.ti el).size 0 0 n (some n)) e) tm ⟨h,nx2⟩) h3 hR;have hel:=T.sl t el ht hu;obtain⟨z,hz1,hz2,hz3⟩:=T.zero el hel;have hpos:=T.pos el hel;refine⟨_,_,h7,fun ι a w hr hx=>?_⟩;obtain⟨hzl,hzr⟩:=zeroA_ok (ι:=ι) hz hz1 hz3;have hlen:=(repA_len hzl (by omega) n).1;rw[hz2]at hlen;have hn:n'=n*(tI s.ti el).size:=by have:=h6.2.1;rw[hlen]at this;exact(Option.some.inj this).symm
 subst hn;have f1:=hO.rv (hx x (by simp[ho,Op.operands]));have f2:=hO.rv (hx y (by simp[ho,Op.operands]));rw[e1]at f1;rw[e2]at f2;exact St.new hr h4 h6 (wr_mks ho hr.rel (by rw[T.und t ht,hu]) (T.info el hel) hz1 hz2 hpos hzl hzr f1 f2 (Nat.le_of_ble_eq_true c2) (T.byt el hel) 0)
theorem ok_mkm{o:Oper}{s:Sx}{t:TypeId}(ho:o.op=.makeMap t none):OpB P o s fun k=>⟨mkmF k⟩:=by
 intro K X e tm H θ R hO hR h;obtain⟨hh,nx⟩:=H;obtain⟨c0,h1⟩:=iB_ok hR h;rw[pw_put,fN_eq]at h1;exact⟨_,_,h1,fun ι a w hr hx=>St.wr hr (blt_lt c0) (B:=.m []) trivial (blt_lt c0) (wr_mkm ho hr.rel)⟩
theorem ok_s2b{o:Oper}{s:Sx}{t d el:TypeId}{x:Operand}(ho:o.op=.convert t d x)(hs:P.underlying t=some .string)(hd:P.underlying d=some (.slice el))(he:P.underlying el=some (.int .u8)):OpB P o s fun k=>⟨s2bF el (opd s x) k⟩:=by
 intro K X e tm H θ R hO hR h;obtain⟨hh,nx⟩:=H;change sbG (fun l n=>newB (some el) (bytesA n l) hh nx fun h nx2=>K.f X (.c (.sl nx 1 0 0 l none) e) tm ⟨h,nx2⟩) ((opd s x).f e tm)=R at h;cases hp:(opd s x).f e tm with
 |s l n=>
  rw[hp]at h;obtain⟨B,n',h4,h5,h6,h7⟩:=newB_ok h hR;refine⟨_,_,h7,fun ι a w hr hx=>?_⟩;have f1:=hO.rv (hx x (by simp[ho,Op.operands]));rw[hp]at f1;have hn:n'=l:=by have:=h6.2.1;rw[(by_rl (ι:=ι) l n).2]at this;exact(Option.some.inj this).symm
  subst hn;exact St.new hr h4 h6 (wr_s2b ho hr.rel hs hd he f1)
 |_=>rw[hp]at h;exact absurd h.symm hR
theorem asM_ok{B:Blk}{C:List (Nat×Nat×AV)→Res}{R:Res}(h:asM B C=R)(hR:R≠.fail):∃es,B=.m es∧C es=R:=by
 cases B with
 |m es=>exact⟨es,rfl,h⟩
 |_=>exact absurd h.symm hR
theorem RV.mp{b:Nat}{v:Value}(h:RV ι (.r 0 b) v):∃E,ι b=some E∧v=.map (some E.b):=by simpa[RV,RL,opv]using h
theorem ok_lkp{o:Oper}{s:Sx}{t key el:TypeId}{x y:Operand}{ok:Bool}(ho:o.op=.lookup t x y ok)(ht:P.underlying t=some (.map key el))(hk:P.underlying key=some .string){z:Value}(hz:∀w,(zeroValue el).run P w=.ok z w):OpB P o s fun k=>⟨lkpF ok (ofV z) (opd s x) (opd s y) k⟩:=by
 intro K X e tm H θ R hO hR h;change lkG ok (ofV z) H (fun v=>K.f X (.c v e) tm H) _ _=R at h;cases hp:(opd s x).f e tm with
 |r g b=>
  rw[hp]at h;obtain⟨c1,h1⟩:=tst hR h;have hg:g=0:=Nat.eq_of_beq_eq_true c1;subst hg;cases hq:(opd s y).f e tm with
  |s l n=>
   rw[hq]at h1;obtain⟨c2,h2⟩:=iB_ok hR h1;obtain⟨es,hB,h3⟩:=asM_ok (B:=get 7 b H.h) h2 hR;have h4:K.f X (.c (if ok then .k 1 0 (.cons ((findM l n es).getD (ofV z)) (.cons (.b (findM l n es).isSome) .nil)) else (findM l n es).getD (ofV z)) e) tm H=R:=by
    cases hf:findM l n es<;>rw[hf]at h3<;>cases ok<;>exact h3
   refine⟨_,H,h4,fun ι a w hr hx=>St.rd hr ?_⟩;have f1:=hO.rv (hx x (by simp[ho,Op.operands]));have f2:=hO.rv (hx y (by simp[ho,Op.operands]));rw[hp]at f1;rw[hq]at f2;obtain⟨E,hE,-⟩:=f1.mp;obtain⟨hh,-⟩:=hr.at hE;rw[hB]at hh;exact rd_lkp ho hr.rel ht hk ⟨z,hz,RV_of z⟩ f1 f2 hh (normS_lt c2)
  |_=>rw[hq]at h1;exact absurd h1.symm hR
 |_=>rw[hp]at h;exact absurd h.symm hR
theorem ok_mup{o:Oper}{s:Sx}{t key el:TypeId}{m y x:Operand}(ho:o.op=.mapUpdate t m y x)(ht:P.underlying t=some (.map key el))(hk:P.underlying key=some .string):OpB P o s fun k=>⟨mupF (opd s m) (opd s y) (opd s x) k⟩:=by
 intro K X e tm H θ R hO hR h;obtain⟨hh,nx⟩:=H;change muG ((opd s x).f e tm) hh (fun h=>K.f X (.c (.v undef) e) tm ⟨h,nx⟩) _ _=R at h;cases hp:(opd s m).f e tm with
 |r g b=>
  rw[hp]at h;obtain⟨c1,h1⟩:=tst hR h;have hg:g=0:=Nat.eq_of_beq_eq_true c1;subst hg;cases hq:(opd s y).f e tm with
  |s l n=>
   rw[hq]at h1;obtain⟨c2,h2⟩:=iB_ok hR h1;obtain⟨es,hB,h3⟩:=asM_ok (B:=get 7 b hh) h2 hR;cases hf:findM l n es with
   |some v=>rw[hf]at h3;exact absurd h3.symm hR
   |none=>
    rw[hf]at h3;change (pw Blk 7 b).f _ hh _=R at h3;rw[pw_put]at h3;refine⟨_,_,h3,fun ι a w hr hx=>?_⟩;have f1:=hO.rv (hx m (by simp[ho,Op.operands]));have f2:=hO.rv (hx y (by simp[ho,Op.operands]));have f3:=hO.rv (hx x (by simp[ho,Op.operands]));rw[hp]at f1;rw[hq]at f2;obtain⟨E,hE,-⟩:=f1.mp;obtain⟨e1,-⟩:=hr.at hE;rw[hB]at e1;exact St.wr hr (hr.blt hE) (B:=.m (es++[(l,n,(opd s x).f e tm)])) trivial hr.nx (wr_mup ho hr.rel ht hk f1 f2 f3 e1 (normS_lt c2) hf)
  |_=>rw[hq]at h1;exact absurd h1.symm hR
 |_=>rw[hp]at h;exact absurd h.symm hR
theorem sO_ok{C:AV→Res}{n:Nat}{r:Option Nat}{R:Res}(h:sO C n r=R)(hR:R≠.fail):∃q,r=some q∧C (.s n q)=R:=by
 cases r with
 |none=>exact absurd h.symm hR
 |some q=>exact⟨q,rfl,(fN_eq q fun r=>C (.s n r)).symm.trans h⟩
theorem ok_cvb{o:Oper}{s:Sx}{t d el:TypeId}{x:Operand}(ho:o.op=.convert t d x)(hs:P.underlying t=some (.slice el))(he:P.underlying el=some (.int .u8))(hd:P.underlying d=some .string):OpB P o s fun k=>⟨cvbF (opd s x) k⟩:=by
 intro K X e tm H θ R hO hR h;change cbG H (fun v=>K.f X (.c v e) tm H) _=R at h;cases hp:(opd s x).f e tm with
 |sl b sz q k n c=>
  rw[hp]at h;obtain⟨c1,h1⟩:=tst hR h;have hg:sz=1:=Nat.eq_of_beq_eq_true c1;subst hg;rcases row_ok (B:=get 7 b H.h) hR h1 with⟨τ,cs,nb,h2,hB⟩|⟨τ,cs,nb,h2,hB⟩
  ·obtain⟨c2,h3⟩:=tst hR h2;rw[ldN_to]at h3;obtain⟨r,h4,h5⟩:=sO_ok h3 hR;refine⟨_,H,h5,fun ι a w hr hx=>St.rd hr ?_⟩;have f1:=hO.rv (hx x (by simp[ho,Op.operands]));rw[hp]at f1;obtain⟨E,hE,-⟩:=f1.sl;obtain⟨hh,hok⟩:=hr.at hE;rw[hB]at hh hok;have hok':nb≤16:=hok;have hq:q+n≤nb:=Nat.le_of_ble_eq_true c2;refine rd_cvb ho hr.rel hs he hd f1 hh hq ?_;rw[←h4];unfold ldL;rw[map_vw (d:=2) (by omega)]
  ·obtain⟨c2,h3⟩:=tst hR h2;rw[ldN_to]at h3;obtain⟨r,h4,h5⟩:=sO_ok h3 hR;refine⟨_,H,h5,fun ι a w hr hx=>St.rd hr ?_⟩;have f1:=hO.rv (hx x (by simp[ho,Op.operands]));rw[hp]at f1;obtain⟨E,hE,-⟩:=f1.sl;obtain⟨hh,hok⟩:=hr.at hE;rw[hB]at hh hok;have hok':nb≤4096:=hok;have hq:q+n≤nb:=Nat.le_of_ble_eq_true c2;refine rd_cvb ho hr.rel hs he hd f1 hh hq ?_;rw[←h4];unfold ldL;rw[map_vw (d:=6) (by omega)]
 |k g t' l=>
  rw[hp]at h;obtain⟨c1,h1⟩:=tst hR h;have hg:g=8:=Nat.eq_of_beq_eq_true c1;subst hg;cases hB:get 7 t' H.h with
  |o a'=>
   change cbO (fun v=>K.f X (.c v e) tm H) l (get 7 t' H.h)=R at h1;rw[hB]at h1;obtain⟨c2,h2⟩:=tst hR h1;obtain⟨g,j,hg,rfl,rfl⟩:=eqTx_ok c2;refine⟨_,H,h2,fun ι a w hr hx=>St.rd hr ?_⟩;have f1:=hO.rv (hx x (by simp[ho,Op.operands]));rw[hp]at f1;obtain⟨ws,k1,E,sb,hE,rfl,hv⟩:=f1;obtain⟨u,us,k2,k3,-⟩:=k1;obtain⟨k4,-⟩:=List.cons.inj k2;subst k4;obtain⟨hh,-⟩:=hr.at hE;rw[hB]at hh;obtain⟨E',e1,e2⟩:=hr.rel.blk t' (by rw[hh];rfl);rw[hE]at e1;cases e1;rw[hh]at e2;obtain⟨arr,ty,fr,s',q1,q2,q3⟩:=e2;have hs':s'=sb:=by
    obtain⟨E1,r1,r2⟩:=RV.tx hg q2;obtain⟨E2,r3,r4⟩:=RV.tx hg k3;rw[r1]at r3;cases r3;rw[←r4]at r2;simpa using r2
   subst hs';refine rd_cvO ho hs he hd (B:=E.b) (c:=E.c) (by simpa using hv) (fun i y hy=>?_) k3;simp only[World.cell?,q1];exact q3 i y hy
  |_=>
   change cbO (fun v=>K.f X (.c v e) tm H) l (get 7 t' H.h)=R at h1;rw[hB]at h1;exact absurd h1.symm hR
 |_=>rw[hp]at h;exact absurd h.symm hR
end Go.Proofs.YtglihimiidiacaaGreatDoor.Ev8
