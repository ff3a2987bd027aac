import Derived.Test.YtcpcplaeaimmpaaGreatDoorPqaJ
set_option maxRecDepth 100000
set_option maxHeartbeats 8000000
namespace Go.Proofs.YtcpcplaeaimmpaaGreatDoor
open Go.RowKit Go.Sort
theorem PAll.mono{α β:Type}{R S:α->β->Prop}(hi:∀a b,R a b->S a b):∀{l:List α} {m:List β},PAll R l m->PAll S l m
 |[],[],_=>trivial
 |_::_,_::_,h=>⟨hi _ _ h.1,PAll.mono hi h.2⟩
theorem fN_nil{G:ByteArray->Bool}{names:List ByteArray}{e:Ex}(h:∀g t pl,e≠.name g t pl):fN G names e=[]:=by
 cases e with
 |name g t pl=>exact absurd rfl (h g t pl)
 |_=>rfl
def pF(Gn:Nms)(d:Nat)(known:Nms)(x:Ex×Nms):List (Nat×Nat):=fK known.length x.2++gE (gfn Gn) d (known.map (·.1)++x.2.map (·.1)) x.1
theorem gE_succ{Gn:Nms}{d:Nat}{known:Nms}{e:Ex}(h:∀g t pl,e≠.name g t pl):gE (gfn Gn) (d+1) (known.map (·.1)) e=(xPr e).flatMap (pF Gn d known):=by
 rw[gE,fN_nil h,List.nil_append,List.length_map];rfl
structure ExSt (B:World) (K:Nat) (adr:Nat->Addr) (gv:Value) (Gn:Nms) (d:Nat) (w wr:World) (st:LkT) (kv:Value) (known:Nms) (vp:Option Addr) (vc:Nat) (l:List (Value×Value)) (ps:List (Ex×Nms)) (k:Nat):Prop where
 lk:LkW B wr K adr gv Gn (ntF st ((ps.take k).flatMap (pF Gn d known)))
 ef:EF K w wr
 row:RowP wr (K+1) (.slice vp l.length vc) l
 ok:PAll (POk d wr K) l ps
 kn:KnAt wr K kv known
section
variable {B:World} {K:Nat} {adr:Nat->Addr} {gv:Value} {Gn:Nms} {d:Nat} {w wr:World} {st:LkT} {kv:Value} {known:Nms} {vp:Option Addr} {vc:Nat} {l:List (Value×Value)} {ps:List (Ex×Nms)} {k:Nat}
theorem ExSt.step(hP:LkPC B K adr gv Gn d)(h:ExSt B K adr gv Gn d w wr st kv known vp vc l ps k)(hk:k<l.length)(hl:known.length+2001*(d+1)<=100000)(ob:Obj):
 Calls Tryz.prog 70 #[.pointer (some ⟨K,0,none⟩),.agg #[l[k].1,l[k].2],kv] (wr.alloc ob) λe' w'=>e'=.returned (.tuple #[])∧ExSt B K adr gv Gn d w w' st kv known vp vc l ps (k+1):=by
 have hk2:k<ps.length:=by rw[<-h.ok.len];exact hk
 have hb:Below wr.heap.size wr (wr.alloc ob):=(Below.refl _ _).alloc (Nat.le_refl _) _;have hE0:EF K wr (wr.alloc ob):=EF.of_below hb;have hp:=(h.ok.get k hk hk2).ef hE0;obtain⟨bs,hx,hKb,hbs⟩:=hp.px;have hnl:=hp.nl;refine(hP (wr.alloc ob) l[k].1 ps[k].1 bs l[k].2 ps[k].2 kv known _ (h.lk.keep hb) hx hKb hbs hp.xb hp.xl hp.kn (h.kn.ef hE0) (by omega)).mono ?_;rintro e' w' ⟨rfl,hE,hL⟩;refine⟨rfl,?_⟩;have hE1:=hE0.trans hE;have e:ntF st ((ps.take (k+1)).flatMap (pF Gn d known))=ntF (ntF st ((ps.take k).flatMap (pF Gn d known))) (fK known.length ps[k].2++gE (gfn Gn) d (known.map (·.1)++ps[k].2.map (·.1)) ps[k].1):=by
  rw[<-ntF_app,List.take_succ_eq_append_getElem hk2,List.flatMap_append,List.flatMap_cons,List.flatMap_nil,List.append_nil];rfl
 refine⟨?_,h.ef.trans hE1,h.row.ef okP hE1 (Nat.lt_succ_self _),h.ok.mono λ_ _ hh=>hh.ef hE1,h.kn.ef hE1⟩;rw[e];exact h.lk.ef hE1 hL
theorem ExSt.at_(h:ExSt B K adr gv Gn d w wr st kv known vp vc l ps k)(hk:k<l.length):∃g t x np nn nc,vp=some ⟨g,0,none⟩∧l[k].1=.iface t x∧l[k].2=.slice np nn nc∧wr.cell? ⟨g,k*2,none⟩=some (.iface t x)∧wr.cell? ⟨g,k*2+1,none⟩=some (.slice np nn nc):=by
 have hk2:k<ps.length:=by rw[<-h.ok.len];exact hk
 have hp:=h.ok.get k hk hk2;obtain⟨bs,hx,-⟩:=hp.px;obtain⟨t,x,e1⟩:=hx.if_;obtain⟨np,nc,e2,-⟩:=hp.kn.cap;obtain⟨g,cap,hv,-,-⟩:=h.row.own.form (by omega);have hown:=h.row.own;rw[hv]at hown;cases hv;have hc:=flat2_at (λx:Value×Value=>x.1) (λx=>x.2) l k hk;refine⟨g,t,x,np,_,nc,rfl,e1,e2,?_,?_⟩
 ·rw[hown.cellAt (k*2) (by omega)];exact hc.1.trans (congrArg some e1)
 ·rw[hown.cellAt (k*2+1) (by omega)];exact hc.2.trans (congrArg some e2)
theorem ExSt.start(hw:LkW B w K adr gv Gn st){X w2:World}{l:List (Value×Value)}{vp:Option Addr}{vc:Nat}(hb:Below w.heap.size w X)(hk:KnAt w K kv known)(hr:PaRes X l (.returned (.slice vp l.length vc)) w2)(ha:PAll (POk d X K) l ps):ExSt B K adr gv Gn d w w2 st kv known vp vc l ps 0:=by
 obtain⟨h1,v',e,h2⟩:=hr;cases e;have hE:EF K w w2:=(EF.of_below hb).trans (EF.of_below h1);have hKl:K<w.heap.size:=hw.ls.lt;refine⟨(hw.keep hb).keep h1,hE,h2.low (by have:=hb.size;omega),ha.mono λ_ _ hh=>hh.ef (EF.of_below h1),hk.ef hE⟩
end
theorem ta_num(x:Value)(w:World):Sem.run Tryz.prog (Instr.typeAssert (.iface 344 x) 181 170 true) w=.ok (.tuple #[.agg #[.string ⟨#[]⟩,.int .i64 0],.bool false]) w:=by kernel_rfl
theorem ta_call(x:Value)(w:World):Sem.run Tryz.prog (Instr.typeAssert (.iface 363 x) 181 170 true) w=.ok (.tuple #[.agg #[.string ⟨#[]⟩,.int .i64 0],.bool false]) w:=by kernel_rfl
theorem ta_let(x:Value)(w:World):Sem.run Tryz.prog (Instr.typeAssert (.iface 312 x) 181 170 true) w=.ok (.tuple #[.agg #[.string ⟨#[]⟩,.int .i64 0],.bool false]) w:=by kernel_rfl
theorem ta_con(x:Value)(w:World):Sem.run Tryz.prog (Instr.typeAssert (.iface 393 x) 181 170 true) w=.ok (.tuple #[.agg #[.string ⟨#[]⟩,.int .i64 0],.bool false]) w:=by kernel_rfl
theorem ta_case(x:Value)(w:World):Sem.run Tryz.prog (Instr.typeAssert (.iface 316 x) 181 170 true) w=.ok (.tuple #[.agg #[.string ⟨#[]⟩,.int .i64 0],.bool false]) w:=by kernel_rfl
theorem ta_op(x:Value)(w:World):Sem.run Tryz.prog (Instr.typeAssert (.iface 361 x) 181 170 true) w=.ok (.tuple #[.agg #[.string ⟨#[]⟩,.int .i64 0],.bool false]) w:=by kernel_rfl
theorem ta_name(x:Value)(w:World):Sem.run Tryz.prog (Instr.typeAssert (.iface 170 x) 181 170 true) w=.ok (.tuple #[x,.bool true]) w:=by kernel_rfl
theorem mp_num(x:Value)(w:World):Sem.run Tryz.prog (method 578 344 x "Parts") w=.ok (339,x) w:=by kernel_rfl
theorem mp_call(x:Value)(w:World):Sem.run Tryz.prog (method 578 363 x "Parts") w=.ok (341,x) w:=by kernel_rfl
theorem mp_let(x:Value)(w:World):Sem.run Tryz.prog (method 578 312 x "Parts") w=.ok (336,x) w:=by kernel_rfl
theorem mp_con(x:Value)(w:World):Sem.run Tryz.prog (method 578 393 x "Parts") w=.ok (342,x) w:=by kernel_rfl
theorem mp_case(x:Value)(w:World):Sem.run Tryz.prog (method 578 316 x "Parts") w=.ok (338,x) w:=by kernel_rfl
theorem mp_op(x:Value)(w:World):Sem.run Tryz.prog (method 578 361 x "Parts") w=.ok (340,x) w:=by kernel_rfl
theorem mp_name(x:Value)(w:World):Sem.run Tryz.prog (method 578 170 x "Parts") w=.ok (324,x) w:=by kernel_rfl
theorem expr_node{B:World}{K:Nat}{adr:Nat->Addr}{gv:Value}{Gn:Nms}{d:Nat}(hP:LkPC B K adr gv Gn d){w:World}{T F:Nat}{x:Value}{e:Ex}{bs:List Nat}{kp:Option Addr}{kn kc:Nat}{known:Nms}{st:LkT}(hw:LkW B w K adr gv Gn st)(hx:PX (d+1) w (.iface T x,e,bs))(hK:K∉bs)(hbs:∀b∈bs,b<w.heap.size)(hnn:∀g t pl,e≠.name g t pl)(hKP:KP T F)(hPC:PartsC d K F (.iface T x) x e bs)(hk:KnAt w K (.slice kp kn kc) known)(hl:known.length+2001*(d+1)<=100000)(hlen:(xPr e).length<=10000):
 Calls Tryz.prog 114 #[.pointer (some ⟨K,0,none⟩),.iface T x,.slice kp kn kc] w λe' w'=>LkRes K gv adr w (ntF st (gE (gfn Gn) (d+1) (known.map (·.1)) e)) e' w':=by
 rw[gE_succ hnn];have HC:Hid (∀X,Below w.heap.size w X->Calls Tryz.prog F #[x] X λe' w2=>∃l vp vc,e'=.returned (.slice vp l.length vc)∧l.length=(xPr e).length∧Hid (ExSt B K adr gv Gn d w w2 st (.slice kp kn kc) known vp vc l (xPr e) 0)):=by
  intro X hb;refine(hPC X (hx.ef (EF.of_below hb) hK hbs) (λb h=>Nat.lt_of_lt_of_le (hbs b h) hb.size)).mono ?_;rintro e' w2 ⟨l,h1,h2⟩;obtain⟨vp,vc,rfl⟩:=h1.slice;exact⟨l,vp,vc,rfl,h2.len,ExSt.start hw hb hk h1 h2⟩
 have HP:=hid hP;clear hPC hx hw hk hP hbs hK hnn;rcases hKP with⟨rfl,rfl⟩|⟨rfl,rfl⟩|⟨rfl,rfl⟩|⟨rfl,rfl⟩|⟨rfl,rfl⟩|⟨rfl,rfl⟩
 ·have hta:=ta_num;have hmp:=mp_num;go_enter Tryz.func114,Tryz.ntmps114;go_upto_region 1 with(fail)
  go_region
  go_wp2_with (first
   |(go_at_call 339;refine(HC.out _ (below_drew1 ((Below.refl _ _).alloc (Nat.le_refl _) _))).mono ?_;rintro e' w2 ⟨l,vp,vc,rfl,hll,HS0⟩;have hlb:l.length<=10000:=(by omega);have HLL:=hid hll;clear hll))
  clear HC hta hmp;go_loopw [41] (λjv wr=>∃k:Nat,k<=l.length∧jv=.int .i64 (k:Int)∧Hid (ExSt B K adr gv Gn d w wr st (.slice kp kn kc) known vp vc l (xPr e) k)) (λjv _=>l.length-(intOf jv).toNat)
  case atStart=>exact⟨0,Nat.zero_le _,rfl,HS0.out⟩
  case round=>
   clear HS0;obtain⟨k,hk,rfl,HS⟩:=hrel;rename World=>wr
   by_cases hlt:k<l.length
   ·have h0:(0:Int)<=(k:Int):=by omega
    have h1:(k:Int)<(l.length:Int):=by omega
    obtain⟨g,pt,px,np,nn,nc,rfl,e1,e2,c0,c1⟩:=HS.out.at_ hlt;have HP2:=hid (HS.out.step HP.out hlt hl);rw[e1,e2]at HP2;clear e1 e2;go_wp2_with (first
     |(go_at_call 70;refine(HP2.out _).mono ?_;rintro e' w3 ⟨rfl,hs3⟩;have HS3:=hid hs3;clear hs3))
    exact⟨⟨k+1,by omega,by go_num,HS3.out⟩,by simp[intOf];omega⟩
   ·obtain rfl:k=l.length:=by omega
    have hge:¬(l.length:Int)<(l.length:Int):=by omega
    go_wp2;refine bE ?_;have hlk:=HS.out.lk;rw[HLL.out,List.take_length]at hlk;exact⟨rfl,HS.out.ef,hlk.ls⟩
 ·have hta:=ta_call;have hmp:=mp_call;go_enter Tryz.func114,Tryz.ntmps114;go_upto_region 1 with(fail)
  go_region
  go_wp2_with (first
   |(go_at_call 341;refine(HC.out _ (below_drew1 ((Below.refl _ _).alloc (Nat.le_refl _) _))).mono ?_;rintro e' w2 ⟨l,vp,vc,rfl,hll,HS0⟩;have hlb:l.length<=10000:=(by omega);have HLL:=hid hll;clear hll))
  clear HC hta hmp;go_loopw [41] (λjv wr=>∃k:Nat,k<=l.length∧jv=.int .i64 (k:Int)∧Hid (ExSt B K adr gv Gn d w wr st (.slice kp kn kc) known vp vc l (xPr e) k)) (λjv _=>l.length-(intOf jv).toNat)
  case atStart=>exact⟨0,Nat.zero_le _,rfl,HS0.out⟩
  case round=>
   clear HS0;obtain⟨k,hk,rfl,HS⟩:=hrel;rename World=>wr
   by_cases hlt:k<l.length
   ·have h0:(0:Int)<=(k:Int):=by omega
    have h1:(k:Int)<(l.length:Int):=by omega
    obtain⟨g,pt,px,np,nn,nc,rfl,e1,e2,c0,c1⟩:=HS.out.at_ hlt;have HP2:=hid (HS.out.step HP.out hlt hl);rw[e1,e2]at HP2;clear e1 e2;go_wp2_with (first
     |(go_at_call 70;refine(HP2.out _).mono ?_;rintro e' w3 ⟨rfl,hs3⟩;have HS3:=hid hs3;clear hs3))
    exact⟨⟨k+1,by omega,by go_num,HS3.out⟩,by simp[intOf];omega⟩
   ·obtain rfl:k=l.length:=by omega
    have hge:¬(l.length:Int)<(l.length:Int):=by omega
    go_wp2;refine bE ?_;have hlk:=HS.out.lk;rw[HLL.out,List.take_length]at hlk;exact⟨rfl,HS.out.ef,hlk.ls⟩
 ·have hta:=ta_let;have hmp:=mp_let;go_enter Tryz.func114,Tryz.ntmps114;go_upto_region 1 with(fail)
  go_region
  go_wp2_with (first
   |(go_at_call 336;refine(HC.out _ (below_drew1 ((Below.refl _ _).alloc (Nat.le_refl _) _))).mono ?_;rintro e' w2 ⟨l,vp,vc,rfl,hll,HS0⟩;have hlb:l.length<=10000:=(by omega);have HLL:=hid hll;clear hll))
  clear HC hta hmp;go_loopw [41] (λjv wr=>∃k:Nat,k<=l.length∧jv=.int .i64 (k:Int)∧Hid (ExSt B K adr gv Gn d w wr st (.slice kp kn kc) known vp vc l (xPr e) k)) (λjv _=>l.length-(intOf jv).toNat)
  case atStart=>exact⟨0,Nat.zero_le _,rfl,HS0.out⟩
  case round=>
   clear HS0;obtain⟨k,hk,rfl,HS⟩:=hrel;rename World=>wr
   by_cases hlt:k<l.length
   ·have h0:(0:Int)<=(k:Int):=by omega
    have h1:(k:Int)<(l.length:Int):=by omega
    obtain⟨g,pt,px,np,nn,nc,rfl,e1,e2,c0,c1⟩:=HS.out.at_ hlt;have HP2:=hid (HS.out.step HP.out hlt hl);rw[e1,e2]at HP2;clear e1 e2;go_wp2_with (first
     |(go_at_call 70;refine(HP2.out _).mono ?_;rintro e' w3 ⟨rfl,hs3⟩;have HS3:=hid hs3;clear hs3))
    exact⟨⟨k+1,by omega,by go_num,HS3.out⟩,by simp[intOf];omega⟩
   ·obtain rfl:k=l.length:=by omega
    have hge:¬(l.length:Int)<(l.length:Int):=by omega
    go_wp2;refine bE ?_;have hlk:=HS.out.lk;rw[HLL.out,List.take_length]at hlk;exact⟨rfl,HS.out.ef,hlk.ls⟩
 ·have hta:=ta_con;have hmp:=mp_con;go_enter Tryz.func114,Tryz.ntmps114;go_upto_region 1 with(fail)
  go_region
  go_wp2_with (first
   |(go_at_call 342;refine(HC.out _ (below_drew1 ((Below.refl _ _).alloc (Nat.le_refl _) _))).mono ?_;rintro e' w2 ⟨l,vp,vc,rfl,hll,HS0⟩;have hlb:l.length<=10000:=(by omega);have HLL:=hid hll;clear hll))
  clear HC hta hmp;go_loopw [41] (λjv wr=>∃k:Nat,k<=l.length∧jv=.int .i64 (k:Int)∧Hid (ExSt B K adr gv Gn d w wr st (.slice kp kn kc) known vp vc l (xPr e) k)) (λjv _=>l.length-(intOf jv).toNat)
  case atStart=>exact⟨0,Nat.zero_le _,rfl,HS0.out⟩
  case round=>
   clear HS0;obtain⟨k,hk,rfl,HS⟩:=hrel;rename World=>wr
   by_cases hlt:k<l.length
   ·have h0:(0:Int)<=(k:Int):=by omega
    have h1:(k:Int)<(l.length:Int):=by omega
    obtain⟨g,pt,px,np,nn,nc,rfl,e1,e2,c0,c1⟩:=HS.out.at_ hlt;have HP2:=hid (HS.out.step HP.out hlt hl);rw[e1,e2]at HP2;clear e1 e2;go_wp2_with (first
     |(go_at_call 70;refine(HP2.out _).mono ?_;rintro e' w3 ⟨rfl,hs3⟩;have HS3:=hid hs3;clear hs3))
    exact⟨⟨k+1,by omega,by go_num,HS3.out⟩,by simp[intOf];omega⟩
   ·obtain rfl:k=l.length:=by omega
    have hge:¬(l.length:Int)<(l.length:Int):=by omega
    go_wp2;refine bE ?_;have hlk:=HS.out.lk;rw[HLL.out,List.take_length]at hlk;exact⟨rfl,HS.out.ef,hlk.ls⟩
 ·have hta:=ta_case;have hmp:=mp_case;go_enter Tryz.func114,Tryz.ntmps114;go_upto_region 1 with(fail)
  go_region
  go_wp2_with (first
   |(go_at_call 338;refine(HC.out _ (below_drew1 ((Below.refl _ _).alloc (Nat.le_refl _) _))).mono ?_;rintro e' w2 ⟨l,vp,vc,rfl,hll,HS0⟩;have hlb:l.length<=10000:=(by omega);have HLL:=hid hll;clear hll))
  clear HC hta hmp;go_loopw [41] (λjv wr=>∃k:Nat,k<=l.length∧jv=.int .i64 (k:Int)∧Hid (ExSt B K adr gv Gn d w wr st (.slice kp kn kc) known vp vc l (xPr e) k)) (λjv _=>l.length-(intOf jv).toNat)
  case atStart=>exact⟨0,Nat.zero_le _,rfl,HS0.out⟩
  case round=>
   clear HS0;obtain⟨k,hk,rfl,HS⟩:=hrel;rename World=>wr
   by_cases hlt:k<l.length
   ·have h0:(0:Int)<=(k:Int):=by omega
    have h1:(k:Int)<(l.length:Int):=by omega
    obtain⟨g,pt,px,np,nn,nc,rfl,e1,e2,c0,c1⟩:=HS.out.at_ hlt;have HP2:=hid (HS.out.step HP.out hlt hl);rw[e1,e2]at HP2;clear e1 e2;go_wp2_with (first
     |(go_at_call 70;refine(HP2.out _).mono ?_;rintro e' w3 ⟨rfl,hs3⟩;have HS3:=hid hs3;clear hs3))
    exact⟨⟨k+1,by omega,by go_num,HS3.out⟩,by simp[intOf];omega⟩
   ·obtain rfl:k=l.length:=by omega
    have hge:¬(l.length:Int)<(l.length:Int):=by omega
    go_wp2;refine bE ?_;have hlk:=HS.out.lk;rw[HLL.out,List.take_length]at hlk;exact⟨rfl,HS.out.ef,hlk.ls⟩
 ·have hta:=ta_op;have hmp:=mp_op;go_enter Tryz.func114,Tryz.ntmps114;go_upto_region 1 with(fail)
  go_region
  go_wp2_with (first
   |(go_at_call 340;refine(HC.out _ (below_drew1 ((Below.refl _ _).alloc (Nat.le_refl _) _))).mono ?_;rintro e' w2 ⟨l,vp,vc,rfl,hll,HS0⟩;have hlb:l.length<=10000:=(by omega);have HLL:=hid hll;clear hll))
  clear HC hta hmp;go_loopw [41] (λjv wr=>∃k:Nat,k<=l.length∧jv=.int .i64 (k:Int)∧Hid (ExSt B K adr gv Gn d w wr st (.slice kp kn kc) known vp vc l (xPr e) k)) (λjv _=>l.length-(intOf jv).toNat)
  case atStart=>exact⟨0,Nat.zero_le _,rfl,HS0.out⟩
  case round=>
   clear HS0;obtain⟨k,hk,rfl,HS⟩:=hrel;rename World=>wr
   by_cases hlt:k<l.length
   ·have h0:(0:Int)<=(k:Int):=by omega
    have h1:(k:Int)<(l.length:Int):=by omega
    obtain⟨g,pt,px,np,nn,nc,rfl,e1,e2,c0,c1⟩:=HS.out.at_ hlt;have HP2:=hid (HS.out.step HP.out hlt hl);rw[e1,e2]at HP2;clear e1 e2;go_wp2_with (first
     |(go_at_call 70;refine(HP2.out _).mono ?_;rintro e' w3 ⟨rfl,hs3⟩;have HS3:=hid hs3;clear hs3))
    exact⟨⟨k+1,by omega,by go_num,HS3.out⟩,by simp[intOf];omega⟩
   ·obtain rfl:k=l.length:=by omega
    have hge:¬(l.length:Int)<(l.length:Int):=by omega
    go_wp2;refine bE ?_;have hlk:=HS.out.lk;rw[HLL.out,List.take_length]at hlk;exact⟨rfl,HS.out.ef,hlk.ls⟩
theorem tn_num(x:Value)(w:World):Sem.run Tryz.prog (Instr.typeAssert (.iface 344 x) 181 344 true) w=.ok (.tuple #[x,.bool true]) w:=by kernel_rfl
theorem tn_let(x:Value)(w:World):Sem.run Tryz.prog (Instr.typeAssert (.iface 344 x) 181 312 true) w=.ok (.tuple #[.agg #[.bool false,.slice none 0 0,.slice none 0 0,.nilIface],.bool false]) w:=by kernel_rfl
theorem tn_case(x:Value)(w:World):Sem.run Tryz.prog (Instr.typeAssert (.iface 344 x) 181 316 true) w=.ok (.tuple #[.agg #[.nilIface,.slice none 0 0],.bool false]) w:=by kernel_rfl
theorem tn_op(x:Value)(w:World):Sem.run Tryz.prog (Instr.typeAssert (.iface 344 x) 181 361 true) w=.ok (.tuple #[.agg #[.int .i64 0,.nilIface,.nilIface],.bool false]) w:=by kernel_rfl
theorem tn_call(x:Value)(w:World):Sem.run Tryz.prog (Instr.typeAssert (.iface 344 x) 181 363 true) w=.ok (.tuple #[.agg #[.nilIface,.slice none 0 0],.bool false]) w:=by kernel_rfl
theorem tn_name(x:Value)(w:World):Sem.run Tryz.prog (Instr.typeAssert (.iface 344 x) 181 170 true) w=.ok (.tuple #[.agg #[.string ⟨#[]⟩,.int .i64 0],.bool false]) w:=by kernel_rfl
section
variable {G:TT->Prop} {lo:Nat} {w:World} {K U:Nat} {nm:ByteArray} {st:CSt} {gv:Value} {B:List Nat}
theorem graph_num(n:Int)(hlo:20<lo)(hT:TabAt w)(h:CM G lo w K U nm st gv B)(hl:st.code.length<=100000):
 Calls Tryz.prog 202 #[.pointer (some ⟨K,0,none⟩),.iface 344 (.agg #[.int .i64 n])] w λe w'=>CRes G lo K U nm gv B w (cPut 0 n st) e w':=by
 have hta:=tn_num;have hb:∀o,Below w.heap.size w (w.alloc o):=λo=>(Below.refl _ _).alloc (Nat.le_refl _) _;have HP:=hid (λw1 (hb:Below w.heap.size w w1)=>put_any 0 n (by omega) hlo (hT.keep hb) (h.keep hb) hl);have HA:=hid (λw1 (hb:Below w.heap.size w w1)=>AF.of_below (X:=B) hb);have HB:=hid hb;clear h hT hb;go_enter Tryz.func202,Tryz.ntmps202;go_wp2_with (first
  |(go_at_call 163;refine(HP.out _ (HB.out _)).mono ?_;intro e w2 hr;obtain⟨rfl,-⟩:=id hr;have HR:=hid (CRes.trans (HA.out _ (HB.out _)) (λb hb=>Or.inl hb) hr);clear hr))
 refine bodyPost_end (results_none rfl _ _ _) rfl ?_;exact HR.out
theorem value_num(n:Int)(hlo:20<lo)(hT:TabAt w)(h:CM G lo w K U nm st gv B)(hl:st.code.length<=100000):
 Calls Tryz.prog 161 #[.pointer (some ⟨K,0,none⟩),.iface 344 (.agg #[.int .i64 n])] w λe w'=>CRes G lo K U nm gv B w (cPut 0 n st) e w':=by
 have hta1:=tn_let;have hta2:=tn_case;have hta3:=tn_op;have hta4:=tn_name;have hta5:=tn_call;have HP:=hid (graph_num n hlo hT h hl);clear h hT;go_enter Tryz.func161,Tryz.ntmps161;go_wp2_with (first
  |(go_at_call 202;refine HP.out.mono ?_;intro e w2 hr;obtain⟨rfl,-⟩:=id hr;have HR:=hid hr;clear hr))
 refine bodyPost_end (results_none rfl _ _ _) rfl ?_;exact HR.out
theorem cput_dep(op:Nat)(a:Int)(c:CSt):(cPut op a c).code.length=c.code.length+1:=by unfold cPut;simp
theorem num_dep{n:Int}{c:CSt}(hd:c.dep=1):(cPut 0 n c).dep=2∧(cUpd 0 (cPut 0 n c)).dep=1:=by
 have h1:(cPut 0 n c).dep=2:=by
  show behV 0 n c.dep=2;rw[hd];simp[behV,rowN,rowsTab];kernel_rfl
 refine⟨h1,?_⟩;show behV 5 ((cPut 0 n c).dep-2-0) (cPut 0 n c).dep=1;rw[h1];simp[behV,rowN,rowsTab];kernel_rfl
theorem CRes.box{b:Nat}{v:Value}{w w':World}{st:CSt}{e:Ending}(h:CRes G lo K U nm gv B w st e w')(hx:w.cell? ⟨b,0,none⟩=some v)(hb:b∉B):w'.cell? ⟨b,0,none⟩=some v:=by
 rw[World.cell?_of_block (a:=⟨b,0,none⟩) (h.2.1.block b (block_lt_of_cell hx) hb)];exact hx
theorem result_num(n:Int)(hlo:20<lo)(hT:TabAt w)(h:CM G lo w K U nm st gv B)(hl:st.code.length<=1000)(hd:st.dep=1):
 Calls Tryz.prog 128 #[.pointer (some ⟨K,0,none⟩),.iface 344 (.agg #[.int .i64 n])] w λe w'=>CRes G lo K U nm gv B w (cPut 19 0 (cUpd 0 (cPut 0 n st))) e w':=by
 have hta1:=tn_let;have hta2:=tn_case;have hb:Below w.heap.size w (w.alloc (.cells #[.pointer (some ⟨K,0,none⟩)] 271)):=(Below.refl _ _).alloc (Nat.le_refl _) _;have hx:(w.alloc (.cells #[.pointer (some ⟨K,0,none⟩)] 271)).cell? ⟨w.heap.size,0,none⟩=some (.pointer (some ⟨K,0,none⟩)):=by simp
 have hz:(w.alloc (.cells #[.pointer (some ⟨K,0,none⟩)] 271)).heap.size=w.heap.size+1:=by simp
 have hBl:∀b∈B,b<w.heap.size:=λb hb=>(h.rg b hb).2;have h1:=h.keep hb;have hT1:=hT.keep hb;have hA1:=AF.of_below (X:=B) hb;obtain⟨d1,d2⟩:=num_dep (n:=n) hd;have hnB:w.heap.size∉B:=λhm=>by have:=hBl _ hm;omega
 have HV:=hid (value_num n hlo hT1 h1 (by omega));have HX1:=hid hx;have HT1:=hid hT1;have HM1:=hid h1;have HA1:=hid hA1;have HNB:=hid hnB;have HZ:=hid hz;clear h hT hb h1 hT1 hA1 hnB hBl hz;go_enter Tryz.func128,Tryz.ntmps128;go_wp2_with (first
  |(go_at_call 161;refine HV.out.mono ?_;intro e w2 hr;have x2:=hr.box hx HNB.out;obtain⟨rfl,hA2,B1,hM2,hB1⟩:=hr;have HA2:=hid (HA1.out.trans hA2 (λb hb=>Or.inl hb));have HL2:=hid (HM1.out.low hA2);have HS2:=hid hA2.size;have HM2:=hid hM2;have HB1:=hid hB1;have HT2:=hid (tab_low HT1.out HL2.out hlo);have HN1:Hid (w.heap.size∉B1):=(λhm=>by rcases HB1.out _ hm with h3|h3;exact HNB.out h3;have:=HZ.out;omega);clear hA2 hM2 hB1)
  |(go_at_call 162;refine(update_any 0 hlo HT2.out HM2.out (by rw[cput_dep];omega) (by omega) (by omega)).mono ?_;intro e w3 hr;have x3:=hr.box x2 HN1.out;obtain⟨rfl,hA3,B2,hM3,hB2⟩:=hr;have HA3:=hid hA3;have HL3:=hid (HM2.out.low hA3);have HM3:=hid hM3;have HB2:=hid hB2;have HT3:=hid (tab_low HT2.out HL3.out hlo);obtain⟨cs3,ts3,cv3,lv3,kv3,tv3,hm3,-,-⟩:=hM3;have k3:=hm3.k.c3;rw[d2]at k3;clear hA3 hB2 hm3)
  |(go_at_call 163;refine(put_any 19 0 (by omega) hlo HT3.out HM3.out (by unfold cUpd;rw[cput_dep,cput_dep];omega)).mono ?_;intro e w4 hr;obtain⟨rfl,-⟩:=id hr;have HR4:=hid hr;clear hr))
 refine bodyPost_end (results_none rfl _ _ _) rfl ?_;have hz:=HZ.out;have hs:=HS2.out;refine CRes.trans (HA2.out.trans HA3.out λb hb=>?_) (λb hb=>?_) HR4.out
 ·rcases HB1.out b hb with h3|h3
  ·exact Or.inl h3
  ·right;omega
 ·rcases HB2.out b hb with h3|h3
  ·rcases HB1.out b h3 with h4|h4
   ·exact Or.inl h4
   ·right;omega
  ·right;omega
end
end Go.Proofs.YtcpcplaeaimmpaaGreatDoor
namespace Go.Proofs.YtcpcplaeaimmpaaGreatDoor
open Go.RowKit
theorem bl64_01(x:Int)(hx:x=0∨x=1)(w:World):Calls Tryz.prog 199 #[.int .u64 x] w λe w'=>∃k,e=.returned (.int .i64 k)∧w'=w:=by
 rcases hx with rfl|rfl;all_goals go_enter Tryz.func199,Tryz.ntmps199
 all_goals go_wp2
 all_goals go_ret
 all_goals exact⟨_,rfl,rfl⟩
theorem bl_01(x:Int)(hx:x=0∨x=1)(w:World):Calls Tryz.prog 157 #[.int .u64 x] w λe w'=>∃k,e=.returned (.int .i64 k)∧w'=w:=by
 go_enter Tryz.func157,Tryz.ntmps157;go_wp2_with (first|(go_at_call 199;refine(bl64_01 x hx _).mono ?_;rintro e w' ⟨k,rfl,rfl⟩))
 go_ret;exact⟨_,rfl,rfl⟩
theorem insI_01(v f:Value)(n:Int)(hn:n<=1)(w:World):Calls Tryz.prog 190 #[v,.int .i64 0,.int .i64 n,f] w λe w'=>e=.returned (.tuple #[])∧w'=w:=by
 have h1:¬(1:Int)<n:=by omega
 go_enter Tryz.func190,Tryz.ntmps190;go_wp2;go_loopw [8] (λi wr=>i=.int .i64 1∧wr=w) (λ_ _=>0)
 case atStart=>exact⟨rfl,rfl⟩
 case round=>
  obtain⟨rfl,rfl⟩:=hrel;go_wp2;refine bodyPost_end (results_none rfl _ _ _) rfl ?_;exact⟨rfl,rfl⟩
theorem pdqI_01(v f:Value)(n m:Int)(hn:n<=1)(h0:0<=n)(w:World):Calls Tryz.prog 156 #[v,.int .i64 0,.int .i64 n,.int .i64 m,f] w λe w'=>e=.returned (.tuple #[])∧w'=w:=by
 have h12:n<=12:=by omega
 go_enter Tryz.func156,Tryz.ntmps156;go_wp2;go_loopw [1,2] (λa b wr=>a=.int .i64 0∧b=.int .i64 n∧wr=w) (λ_ _ _=>0)
 case atStart=>exact⟨rfl,rfl,rfl⟩
 case round=>
  obtain⟨rfl,rfl,rfl⟩:=hrel;go_wp2_with (first|(go_at_call 190;refine(insI_01 _ _ n hn _).mono ?_;rintro e w' ⟨rfl,rfl⟩))
  refine bodyPost_ret (results_none rfl _ _ _) rfl ?_;exact⟨rfl,rfl⟩
theorem sortI_01(p:Option Addr)(n c:Nat)(f:Value)(hn:n<=1)(w:World):Calls Tryz.prog 125 #[.slice p n c,f] w λe w'=>e=.returned (.tuple #[])∧w'=w:=by
 go_enter Tryz.func125,Tryz.ntmps125;go_wp2_with (first
  |(go_at_call 157;refine(bl_01 (n:Int) (by omega) _).mono ?_;rintro e w' ⟨k,rfl,rfl⟩)
  |(go_at_call 156;refine(pdqI_01 _ _ (n:Int) k (by omega) (by omega) _).mono ?_;rintro e w' ⟨rfl,rfl⟩))
 refine bodyPost_end (results_none rfl _ _ _) rfl ?_;exact⟨rfl,rfl⟩
theorem insG_01(v f:Value)(n:Int)(hn:n<=1)(w:World):Calls Tryz.prog 206 #[v,.int .i64 0,.int .i64 n,f] w λe w'=>e=.returned (.tuple #[])∧w'=w:=by
 have h1:¬(1:Int)<n:=by omega
 go_enter Tryz.func206,Tryz.ntmps206;go_wp2;go_loopw [8] (λi wr=>i=.int .i64 1∧wr=w) (λ_ _=>0)
 case atStart=>exact⟨rfl,rfl⟩
 case round=>
  obtain⟨rfl,rfl⟩:=hrel;go_wp2;refine bodyPost_end (results_none rfl _ _ _) rfl ?_;exact⟨rfl,rfl⟩
theorem pdqG_01(v f:Value)(n m:Int)(hn:n<=1)(h0:0<=n)(w:World):Calls Tryz.prog 165 #[v,.int .i64 0,.int .i64 n,.int .i64 m,f] w λe w'=>e=.returned (.tuple #[])∧w'=w:=by
 have h12:n<=12:=by omega
 go_enter Tryz.func165,Tryz.ntmps165;go_wp2;go_loopw [1,2] (λa b wr=>a=.int .i64 0∧b=.int .i64 n∧wr=w) (λ_ _ _=>0)
 case atStart=>exact⟨rfl,rfl,rfl⟩
 case round=>
  obtain⟨rfl,rfl,rfl⟩:=hrel;go_wp2_with (first|(go_at_call 206;refine(insG_01 _ _ n hn _).mono ?_;rintro e w' ⟨rfl,rfl⟩))
  refine bodyPost_ret (results_none rfl _ _ _) rfl ?_;exact⟨rfl,rfl⟩
theorem sortG_01(p:Option Addr)(n c:Nat)(f:Value)(hn:n<=1)(w:World):Calls Tryz.prog 130 #[.slice p n c,f] w λe w'=>e=.returned (.tuple #[])∧w'=w:=by
 go_enter Tryz.func130,Tryz.ntmps130;go_wp2_with (first
  |(go_at_call 157;refine(bl_01 (n:Int) (by omega) _).mono ?_;rintro e w' ⟨k,rfl,rfl⟩)
  |(go_at_call 165;refine(pdqG_01 _ _ (n:Int) k (by omega) (by omega) _).mono ?_;rintro e w' ⟨rfl,rfl⟩))
 refine bodyPost_end (results_none rfl _ _ _) rfl ?_;exact⟨rfl,rfl⟩
theorem insS_01(v:Value)(n:Int)(hn:n<=1)(w:World):Calls Tryz.prog 214 #[v,.int .i64 0,.int .i64 n] w λe w'=>e=.returned (.tuple #[])∧w'=w:=by
 have h1:¬(1:Int)<n:=by omega
 go_enter Tryz.func214,Tryz.ntmps214;go_wp2;go_loopw [6] (λi wr=>i=.int .i64 1∧wr=w) (λ_ _=>0)
 case atStart=>exact⟨rfl,rfl⟩
 case round=>
  obtain⟨rfl,rfl⟩:=hrel;go_wp2;refine bodyPost_end (results_none rfl _ _ _) rfl ?_;exact⟨rfl,rfl⟩
theorem pdqS_01(v:Value)(n m:Int)(hn:n<=1)(h0:0<=n)(w:World):Calls Tryz.prog 166 #[v,.int .i64 0,.int .i64 n,.int .i64 m] w λe w'=>e=.returned (.tuple #[])∧w'=w:=by
 have h12:n<=12:=by omega
 go_enter Tryz.func166,Tryz.ntmps166;go_wp2;go_loopw [1,2] (λa b wr=>a=.int .i64 0∧b=.int .i64 n∧wr=w) (λ_ _ _=>0)
 case atStart=>exact⟨rfl,rfl,rfl⟩
 case round=>
  obtain⟨rfl,rfl,rfl⟩:=hrel;go_wp2_with (first|(go_at_call 214;refine(insS_01 _ n hn _).mono ?_;rintro e w' ⟨rfl,rfl⟩))
  refine bodyPost_ret (results_none rfl _ _ _) rfl ?_;exact⟨rfl,rfl⟩
theorem sortS_01(p:Option Addr)(n c:Nat)(hn:n<=1)(w:World):Calls Tryz.prog 133 #[.slice p n c] w λe w'=>e=.returned (.tuple #[])∧w'=w:=by
 go_enter Tryz.func133,Tryz.ntmps133;go_wp2_with (first
  |(go_at_call 157;refine(bl_01 (n:Int) (by omega) _).mono ?_;rintro e w' ⟨k,rfl,rfl⟩)
  |(go_at_call 166;refine(pdqS_01 _ (n:Int) k (by omega) (by omega) _).mono ?_;rintro e w' ⟨rfl,rfl⟩))
 refine bodyPost_end (results_none rfl _ _ _) rfl ?_;exact⟨rfl,rfl⟩
end Go.Proofs.YtcpcplaeaimmpaaGreatDoor
