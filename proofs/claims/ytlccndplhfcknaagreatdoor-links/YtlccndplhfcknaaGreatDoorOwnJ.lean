import Derived.Test.YtlccndplhfcknaaGreatDoorSearchJ
import Derived.Test.YtlccndplhfcknaaGreatDoorReachJ
import Derived.Deep.RegionLaw
set_option maxHeartbeats 4000000
namespace Go.Proofs.YtlccndplhfcknaaGreatDoor
open Go.RowKit Go.Sort
def altCells(l:List LAlt):List Value:=l.flatMap λx=>[.int .i64 x.tag,.int .i64 x.to]
def impCells(l:List LImp):List Value:=l.flatMap λx=>[.string x.name,.int .i64 x.arity]
def insCells(l:List (LIns×Value)):List Value:=l.flatMap λx=>[.int .i64 x.1.op,.int .i64 x.1.a,x.2]
def globCells(l:List (LGlob×Value)):List Value:=l.flatMap λx=>[.string x.1.name,.int .i64 x.1.arity,.bool x.1.exp,x.2]
theorem flat2_len{α:Type}(f g:α->Value):∀l:List α,(l.flatMap λx=>[f x,g x]).length=l.length*2
 |[]=>rfl
 |a::r=>by simp only[List.flatMap_cons,List.length_append,List.length_cons,List.length_nil,flat2_len f g r];omega
theorem flat3_len{α:Type}(f g h:α->Value):∀l:List α,(l.flatMap λx=>[f x,g x,h x]).length=l.length*3
 |[]=>rfl
 |a::r=>by simp only[List.flatMap_cons,List.length_append,List.length_cons,List.length_nil,flat3_len f g h r];omega
theorem flat4_len{α:Type}(f g h k:α->Value):∀l:List α,(l.flatMap λx=>[f x,g x,h x,k x]).length=l.length*4
 |[]=>rfl
 |a::r=>by simp only[List.flatMap_cons,List.length_append,List.length_cons,List.length_nil,flat4_len f g h k r];omega
theorem flat2_at{α:Type}(f g:α->Value):∀(l:List α) (i:Nat) (h:i<l.length),(l.flatMap λx=>[f x,g x])[i*2]?=some (f l[i])∧(l.flatMap λx=>[f x,g x])[i*2+1]?=some (g l[i])
 |a::r,0,_=>by simp
 |a::r,i+1,h=>by
  have:=flat2_at f g r i (by simpa using h);simp only[List.flatMap_cons,List.getElem_cons_succ];rw[List.getElem?_append_right (by simp;omega),List.getElem?_append_right (by simp;omega)];simp only[List.length_cons,List.length_nil];rw[show(i+1)*2-(0+1+1)=i*2 by omega,show(i+1)*2+1-(0+1+1)=i*2+1 by omega];exact this
theorem flat3_at{α:Type}(f g k:α->Value):∀(l:List α) (i:Nat) (h:i<l.length),(l.flatMap λx=>[f x,g x,k x])[i*3]?=some (f l[i])∧(l.flatMap λx=>[f x,g x,k x])[i*3+1]?=some (g l[i])∧(l.flatMap λx=>[f x,g x,k x])[i*3+2]?=some (k l[i])
 |a::r,0,_=>by simp
 |a::r,i+1,h=>by
  have:=flat3_at f g k r i (by simpa using h);simp only[List.flatMap_cons,List.getElem_cons_succ];rw[List.getElem?_append_right (by simp;omega),List.getElem?_append_right (by simp;omega),List.getElem?_append_right (by simp;omega)];simp only[List.length_cons,List.length_nil];rw[show(i+1)*3-(0+1+1+1)=i*3 by omega,show(i+1)*3+1-(0+1+1+1)=i*3+1 by omega,show(i+1)*3+2-(0+1+1+1)=i*3+2 by omega];exact this
theorem flat4_at{α:Type}(f g k m:α->Value):∀(l:List α) (i:Nat) (h:i<l.length),(l.flatMap λx=>[f x,g x,k x,m x])[i*4]?=some (f l[i])∧(l.flatMap λx=>[f x,g x,k x,m x])[i*4+1]?=some (g l[i])∧(l.flatMap λx=>[f x,g x,k x,m x])[i*4+2]?=some (k l[i])∧(l.flatMap λx=>[f x,g x,k x,m x])[i*4+3]?=some (m l[i])
 |a::r,0,_=>by simp
 |a::r,i+1,h=>by
  have:=flat4_at f g k m r i (by simpa using h);simp only[List.flatMap_cons,List.getElem_cons_succ];rw[List.getElem?_append_right (by simp;omega),List.getElem?_append_right (by simp;omega),List.getElem?_append_right (by simp;omega),List.getElem?_append_right (by simp;omega)];simp only[List.length_cons,List.length_nil];rw[show(i+1)*4-(0+1+1+1+1)=i*4 by omega,show(i+1)*4+1-(0+1+1+1+1)=i*4+1 by omega,show(i+1)*4+2-(0+1+1+1+1)=i*4+2 by omega,show(i+1)*4+3-(0+1+1+1+1)=i*4+3 by omega];exact this
theorem altCells_len(l:List LAlt):(altCells l).length=l.length*2:=flat2_len _ _ l
theorem impCells_len(l:List LImp):(impCells l).length=l.length*2:=flat2_len _ _ l
theorem insCells_len(l:List (LIns×Value)):(insCells l).length=l.length*3:=flat3_len _ _ _ l
theorem globCells_len(l:List (LGlob×Value)):(globCells l).length=l.length*4:=flat4_len _ _ _ _ l
theorem altCells_one(l:List LAlt):∀u∈altCells l,u.oneCell'=true:=by
 intro u hu;simp only[altCells,List.mem_flatMap]at hu;obtain⟨x,-,hx⟩:=hu;simp at hx;rcases hx with rfl|rfl<;>rfl
theorem impCells_one(l:List LImp):∀u∈impCells l,u.oneCell'=true:=by
 intro u hu;simp only[impCells,List.mem_flatMap]at hu;obtain⟨x,-,hx⟩:=hu;simp at hx;rcases hx with rfl|rfl<;>rfl
theorem add_off(b o j:Nat):(⟨b,o,none⟩:Addr).add j=⟨b,o+j,none⟩:=by
 unfold Addr.add;split
 ·simp_all
 ·rfl
theorem news2{α:Type}(f g:α->Value)(l:List α)(w:World)(b o:Nat)(h:∀i (hi:i<l.length),w.cell? ⟨b,o+i*2,none⟩=some (f l[i])∧w.cell? ⟨b,o+i*2+1,none⟩=some (g l[i])):
 ∀j u,(l.flatMap λx=>[f x,g x])[j]?=some u->w.cell? ((⟨b,o,none⟩:Addr).add j)=some u:=by
 intro j u hu;have hj:j<l.length*2:=by
  rw[<-flat2_len f g l];rcases Nat.lt_or_ge j (l.flatMap λx=>[f x,g x]).length with h1|h1
  ·exact h1
  ·rw[List.getElem?_eq_none h1]at hu;cases hu
 have hi:j / 2<l.length:=by omega
 obtain⟨h0,h1⟩:=h (j / 2) hi;obtain⟨f0,f1⟩:=flat2_at f g l (j / 2) hi;rcases Nat.mod_two_eq_zero_or_one j with e|e
 ·have ej:j / 2*2=j:=by omega
  rw[ej]at f0 h0;rw[f0]at hu;cases hu;rw[add_off];exact h0
 ·have ej:j / 2*2+1=j:=by omega
  rw[ej]at f1;rw[show o+j / 2*2+1=o+j by omega]at h1;rw[f1]at hu;cases hu;rw[add_off];exact h1
theorem run_append_zero{P:Program}(w:World)(t ty e:TypeId)(i:TypeInfo)(ht:P.underlying t=some (.slice e))(hi:P.info? e=some i)(a:Addr)(c:Nat):
 (Builtin.append_ #[t,t] ty #[.slice none 0 0,.slice (some a) 0 c]).run P w=.ok (.slice none 0 0) w:=by
 have hfc:=run_firstCells_some (P:=P) w i.size 0 a 0 c [] (by simp) (by simp);simp[Builtin.append_,run_underlying ht,sizeOf,typeInfo,hi,Builtin.lenOf,hfc]
theorem step_append_zero{P:Program}{ops:Array Oper}{o:Oper}{a:Act}{w:World}{K:Act->World->Prop}{Q:Exit->Act->World->Prop}{E:Prop}
 (hg:o.guard=none) (s x:Operand) (t:TypeId) (hop:o.op=Op.call {callee:=Callee.builtin Builtin.append,args:=#[s,x],argTypes:=#[t,t]})
 (e:TypeId) (i:TypeInfo) (h1:P.underlying t=some (.slice e)) (h2:P.info? e=some i) (hs:a.eval s=.slice none 0 0) (ad:Addr) (m c:Nat) (hx:a.eval x=.slice (some ad) m c) (hm:m=0)
 (hK:K (a.put o.dst (.slice none 0 0)) w):if Region.wanted o (yielded ops a.tmps)=true then Oper.wp P o a w K Q else E:=by
 subst hm;have hw:Region.wanted o (yielded ops a.tmps)=true:=by simp[Region.wanted,hg]
 rw[if_pos hw];have hrun:=run_append_zero (P:=P) w t o.type e i h1 h2 ad c;unfold Oper.wp;simp[execOp,hop,resolve,invoke,builtin,hs,hx,hrun,Result.andThen];exact hK
def ImpsR(w:World)(lo:Nat)(v:Value)(l:List LImp):Prop:=
 ∃g cap,v=.slice (some ⟨g,0,none⟩) l.length cap∧l.length<cap∧lo<=g∧g<w.heap.size∧(∀i (h:i<l.length),w.cell? ⟨g,i*2,none⟩=some (.string l[i].name)∧w.cell? ⟨g,i*2+1,none⟩=some (.int .i64 l[i].arity))∧w.cell? ⟨g,l.length*2+1,none⟩=some (.int .i64 (-77))
theorem row_lt{w:World}{base:Nat}{e:TypeId}{size g n cap:Nat}{xs:List Value}(h:w.ownsRow base e size (.slice (some ⟨g,0,none⟩) n cap) n xs):g<w.heap.size∧base<=g∧n<=cap:=by
 rcases h.2 with⟨h0,-⟩|⟨g',cap',cur,hv,hb,hh,hn,-⟩
 ·cases h0
 ·simp at hv;obtain⟨rfl,rfl⟩:=hv;refine⟨?_,hb,hn⟩;rcases Nat.lt_or_ge g w.heap.size with h1|h1
  ·exact h1
  ·rw[Array.getElem?_eq_none h1]at hh;cases hh
theorem ImpsR.of_row{w:World}{base g cap:Nat}{l:List LImp}(h:w.ownsRow base 69 2 (.slice (some ⟨g,0,none⟩) (l.length+1) cap) (l.length+1) (impCells l++[.string ⟨#[]⟩,.int .i64 (-77)])):ImpsR w base (.slice (some ⟨g,0,none⟩) l.length cap) l:=by
 obtain⟨h1,h2,h3⟩:=row_lt h;refine⟨g,cap,rfl,by omega,h2,h1,λi hi=>?_,?_⟩
 ·obtain⟨f0,f1⟩:=flat2_at (λx:LImp=>Value.string x.name) (λx=>Value.int .i64 x.arity) l i hi;have hl:=impCells_len l;rw[h.cellAt _ (by omega),h.cellAt _ (by omega),List.getElem?_append_left (by omega),List.getElem?_append_left (by omega)];exact⟨f0,f1⟩
 ·have hl:=impCells_len l;rw[h.cellAt _ (by omega),List.getElem?_append_right (by omega),hl,show l.length*2+1-l.length*2=1 by omega];rfl
theorem ImpsR.far{w w':World}{lo:Nat}{v:Value}{l:List LImp}(h:ImpsR w lo v l)(hs:w.heap.size<=w'.heap.size)(hk:∀b j,lo<=b->b<w.heap.size->w'.cell? ⟨b,j,none⟩=w.cell? ⟨b,j,none⟩):ImpsR w' lo v l:=by
 obtain⟨g,cap,e,h1,h2,h3,h4,h5⟩:=h;exact⟨g,cap,e,h1,h2,by omega,λi hi=>by rw[hk _ _ h2 h3,hk _ _ h2 h3];exact h4 i hi,by rw[hk _ _ h2 h3];exact h5⟩
theorem ImpsR.low{w:World}{lo lo':Nat}{v:Value}{l:List LImp}(h:ImpsR w lo v l)(hl:lo'<=lo):ImpsR w lo' v l:=by
 obtain⟨g,cap,e,h1,h2,h3⟩:=h;exact⟨g,cap,e,h1,by omega,h3⟩
theorem ImpsR.keep{w w':World}{lo:Nat}{v:Value}{l:List LImp}(h:ImpsR w lo v l)(hb:Below w.heap.size w w'):ImpsR w' lo v l:=h.far hb.size λb j _ h2=>(bcell hb).1 b j h2
theorem ImpsR.set{w:World}{lo b o:Nat}{x v:Value}{l:List LImp}(h:ImpsR w lo v l)(hb:b<lo):ImpsR (w.setCell ⟨b,o,none⟩ x) lo v l:=
 h.far (by simp) λc j h1 _=>World.cell?_setCell_other _ _ _ _ (by intro e;have:=congrArg Addr.block e;simp only at this;omega)
theorem ImpsR.at{w:World}{lo:Nat}{v:Value}{l:List LImp}(h:ImpsR w lo v l)(hs:short l.length)(hn:∀i (hi:i<l.length),l[i].name.size<=maxLen):ImpsAt w v l:=by
 obtain⟨g,cap,e,h1,h2,h3,h4,h5⟩:=h;exact⟨_,cap,e,hs,λi hi=>⟨g,0,rfl,by rw[Nat.zero_add];exact(h4 i hi).1,by rw[Nat.zero_add];exact(h4 i hi).2,hn i hi⟩⟩
theorem frozen_new(w:World)(o:Array Value)(t:TypeId)(j:Nat):(w.alloc (.cells o t)).frozen? ⟨w.heap.size,j,none⟩=false:=by simp
def moved(w:World)(x x':Option Nat):Prop:=x'=x∨x'=some w.heap.size
def okB(lo:Nat)(x:Option Nat)(b:Nat):Prop:=lo<=b∧x≠some b
theorem okB.moved{w:World}{lo:Nat}{x x':Option Nat}(hm:moved w x x')(b:Nat)(h:okB lo x b)(hb:b<w.heap.size):okB lo x' b:=by
 refine⟨h.1,?_⟩;rcases hm with rfl|rfl
 ·exact h.2
 ·intro e;simp at e;omega
def AltsR(w:World)(P:Nat->Prop)(v:Value)(l:List LAlt):Prop:=
 (∃c,v=.slice none 0 c∧l=[])∨∃g cap,v=.slice (some ⟨g,0,none⟩) l.length cap∧l.length<cap∧P g∧g<w.heap.size∧(∀i (h:i<l.length),w.cell? ⟨g,i*2,none⟩=some (.int .i64 l[i].tag)∧w.cell? ⟨g,i*2+1,none⟩=some (.int .i64 l[i].to))∧w.cell? ⟨g,l.length*2+1,none⟩=some (.int .i64 (-77))
theorem AltsR.far{w w':World}{P P':Nat->Prop}{v:Value}{l:List LAlt}(h:AltsR w P v l)(hs:w.heap.size<=w'.heap.size)(hm:∀b,P b->b<w.heap.size->P' b)(hk:∀b j,b<w.heap.size->P b->w'.cell? ⟨b,j,none⟩=w.cell? ⟨b,j,none⟩):AltsR w' P' v l:=by
 rcases h with h|⟨g,cap,e,h1,h2,h3,h4,h5⟩
 ·exact Or.inl h
 ·exact Or.inr ⟨g,cap,e,h1,hm _ h2 h3,by omega,λi hi=>by rw[hk _ _ h3 h2,hk _ _ h3 h2];exact h4 i hi,by rw[hk _ _ h3 h2];exact h5⟩
theorem AltsR.keep{w w':World}{P:Nat->Prop}{v:Value}{l:List LAlt}(h:AltsR w P v l)(hb:Below w.heap.size w w'):AltsR w' P v l:=h.far hb.size (λ_ h _=>h) λb j h2 _=>(bcell hb).1 b j h2
theorem AltsR.weak{w:World}{P P':Nat->Prop}{v:Value}{l:List LAlt}(h:AltsR w P v l)(hm:∀b,P b->P' b):AltsR w P' v l:=h.far (Nat.le_refl _) (λb h _=>hm b h) λ_ _ _ _=>rfl
theorem AltsR.set{w:World}{P:Nat->Prop}{b o:Nat}{u v:Value}{l:List LAlt}(h:AltsR w P v l)(hb:¬P b):AltsR (w.setCell ⟨b,o,none⟩ u) P v l:=
 h.far (by simp) (λ_ h _=>h) λc j _ h2=>World.cell?_setCell_other _ _ _ _ (by intro e;have:=congrArg Addr.block e;simp only at this;subst this;exact hb h2)
theorem AltsR.grown{w w':World}{lo:Nat}{x x':Option Nat}{v:Value}{l:List LAlt}(h:AltsR w (okB lo x) v l)(hg:w.grownBy w' x)(hm:moved w x x'):AltsR w' (okB lo x') v l:=h.far hg.size (okB.moved hm) λb j h1 h2=>hg.cell_far ⟨b,j,none⟩ h1 (λe=>h2.2 e.symm)
theorem AltsR.of_row{w:World}{base g cap:Nat}{l:List LAlt}(P:Nat->Prop)(hx:∀y,base<=y->P y)(h:w.ownsRow base 76 2 (.slice (some ⟨g,0,none⟩) (l.length+1) cap) (l.length+1) (altCells l++[.int .i64 0,.int .i64 (-77)])):AltsR w P (.slice (some ⟨g,0,none⟩) l.length cap) l:=by
 obtain⟨h1,h2,h3⟩:=row_lt h;have hl:=altCells_len l;refine Or.inr ⟨g,cap,rfl,by omega,hx _ h2,h1,λi hi=>?_,?_⟩
 ·obtain⟨f0,f1⟩:=flat2_at (λx:LAlt=>Value.int .i64 x.tag) (λx=>Value.int .i64 x.to) l i hi;rw[h.cellAt _ (by omega),h.cellAt _ (by omega),List.getElem?_append_left (by omega),List.getElem?_append_left (by omega)];exact⟨f0,f1⟩
 ·rw[h.cellAt _ (by omega),List.getElem?_append_right (by omega),hl,show l.length*2+1-l.length*2=1 by omega];rfl
theorem AltsR.at{w:World}{P:Nat->Prop}{v:Value}{l:List LAlt}(h:AltsR w P v l)(hs:short l.length):AltsAt w v l:=by
 rcases h with⟨c,rfl,rfl⟩|⟨g,cap,e,h1,h2,h3,h4,h5⟩
 ·exact⟨none,c,rfl,hs,λi hi=>absurd hi (by simp)⟩
 ·exact⟨_,cap,e,hs,λi hi=>⟨g,0,rfl,by rw[Nat.zero_add];exact(h4 i hi).1,by rw[Nat.zero_add];exact(h4 i hi).2⟩⟩
theorem AltsR.one{w:World}{P:Nat->Prop}{v:Value}{l:List LAlt}(h:AltsR w P v l):v.oneCell'=true:=by
 rcases h with⟨c,rfl,rfl⟩|⟨g,cap,rfl,-⟩<;>rfl
theorem AltsR.slice{w:World}{P:Nat->Prop}{v:Value}{l:List LAlt}(h:AltsR w P v l):∃p c,v=.slice p l.length c:=by
 rcases h with⟨c,rfl,rfl⟩|⟨g,cap,rfl,-⟩<;>exact⟨_,_,rfl⟩
def CodeR(w:World)(P:Nat->Prop)(v:Value)(l:List LIns):Prop:=
 (∃c,v=.slice none 0 c∧l=[])∨∃g cap,v=.slice (some ⟨g,0,none⟩) l.length cap∧l.length<cap∧P g∧g<w.heap.size∧(∀i (h:i<l.length),∃av,w.cell? ⟨g,i*3,none⟩=some (.int .i64 l[i].op)∧w.cell? ⟨g,i*3+1,none⟩=some (.int .i64 l[i].a)∧w.cell? ⟨g,i*3+2,none⟩=some av∧AltsR w P av l[i].alts)∧w.cell? ⟨g,l.length*3+1,none⟩=some (.int .i64 (-77))
theorem CodeR.far{w w':World}{P P':Nat->Prop}{v:Value}{l:List LIns}(h:CodeR w P v l)(hs:w.heap.size<=w'.heap.size)(hm:∀b,P b->b<w.heap.size->P' b)(hk:∀b j,b<w.heap.size->P b->w'.cell? ⟨b,j,none⟩=w.cell? ⟨b,j,none⟩):CodeR w' P' v l:=by
 rcases h with h|⟨g,cap,e,h1,h2,h3,h4,h5⟩
 ·exact Or.inl h
 ·refine Or.inr ⟨g,cap,e,h1,hm _ h2 h3,by omega,λi hi=>?_,by rw[hk _ _ h3 h2];exact h5⟩;obtain⟨av,a0,a1,a2,a3⟩:=h4 i hi;exact⟨av,by rw[hk _ _ h3 h2];exact a0,by rw[hk _ _ h3 h2];exact a1,by rw[hk _ _ h3 h2];exact a2,a3.far hs hm hk⟩
theorem CodeR.keep{w w':World}{P:Nat->Prop}{v:Value}{l:List LIns}(h:CodeR w P v l)(hb:Below w.heap.size w w'):CodeR w' P v l:=h.far hb.size (λ_ h _=>h) λb j h2 _=>(bcell hb).1 b j h2
theorem CodeR.weak{w:World}{P P':Nat->Prop}{v:Value}{l:List LIns}(h:CodeR w P v l)(hm:∀b,P b->P' b):CodeR w P' v l:=h.far (Nat.le_refl _) (λb h _=>hm b h) λ_ _ _ _=>rfl
theorem CodeR.set{w:World}{P:Nat->Prop}{b o:Nat}{u v:Value}{l:List LIns}(h:CodeR w P v l)(hb:¬P b):CodeR (w.setCell ⟨b,o,none⟩ u) P v l:=
 h.far (by simp) (λ_ h _=>h) λc j _ h2=>World.cell?_setCell_other _ _ _ _ (by intro e;have:=congrArg Addr.block e;simp only at this;subst this;exact hb h2)
theorem CodeR.grown{w w':World}{lo:Nat}{x x':Option Nat}{v:Value}{l:List LIns}(h:CodeR w (okB lo x) v l)(hg:w.grownBy w' x)(hm:moved w x x'):CodeR w' (okB lo x') v l:=h.far hg.size (okB.moved hm) λb j h1 h2=>hg.cell_far ⟨b,j,none⟩ h1 (λe=>h2.2 e.symm)
theorem CodeR.of_row{w:World}{base g cap:Nat}{il:List (LIns×Value)}(P:Nat->Prop)(hx:∀y,base<=y->P y)(h:w.ownsRow base 37 3 (.slice (some ⟨g,0,none⟩) (il.length+1) cap) (il.length+1) (insCells il++[.int .i64 0,.int .i64 (-77),.slice none 0 0]))(ha:∀y∈il,AltsR w P y.2 y.1.alts):CodeR w P (.slice (some ⟨g,0,none⟩) il.length cap) (il.map (·.1)):=by
 obtain⟨h1,h2,h3⟩:=row_lt h;have hl:=insCells_len il;refine Or.inr ⟨g,cap,by simp,by simp;omega,hx _ h2,h1,λi hi=>?_,?_⟩
 ·have hi':i<il.length:=by simpa using hi
  obtain⟨f0,f1,f2⟩:=flat3_at (λx:LIns×Value=>Value.int .i64 x.1.op) (λx=>Value.int .i64 x.1.a) (λx=>x.2) il i hi';refine⟨il[i].2,?_,?_,?_,by simpa using ha _ (List.getElem_mem hi')⟩
  ·rw[h.cellAt _ (by omega),List.getElem?_append_left (by omega)];simp only[List.getElem_map];exact f0
  ·rw[h.cellAt _ (by omega),List.getElem?_append_left (by omega)];simp only[List.getElem_map];exact f1
  ·rw[h.cellAt _ (by omega),List.getElem?_append_left (by omega)];exact f2
 ·rw[List.length_map,h.cellAt _ (by omega),List.getElem?_append_right (by omega),hl,show il.length*3+1-il.length*3=1 by omega];rfl
theorem CodeR.at{w:World}{P:Nat->Prop}{v:Value}{l:List LIns}(h:CodeR w P v l)(hs:short l.length)(ha:∀i (hi:i<l.length),short l[i].alts.length):CodeAt w v l:=by
 rcases h with⟨c,rfl,rfl⟩|⟨g,cap,e,h1,h2,h3,h4,h5⟩
 ·exact⟨none,c,rfl,hs,λi hi=>absurd hi (by simp)⟩
 ·refine⟨_,cap,e,hs,λi hi=>?_⟩;obtain⟨av,a0,a1,a2,a3⟩:=h4 i hi;exact⟨g,0,av,rfl,by rw[Nat.zero_add];exact a0,by rw[Nat.zero_add];exact a1,by rw[Nat.zero_add];exact a2,a3.at (ha i hi)⟩
theorem CodeR.one{w:World}{P:Nat->Prop}{v:Value}{l:List LIns}(h:CodeR w P v l):v.oneCell'=true:=by
 rcases h with⟨c,rfl,rfl⟩|⟨g,cap,rfl,-⟩<;>rfl
theorem CodeR.slice{w:World}{P:Nat->Prop}{v:Value}{l:List LIns}(h:CodeR w P v l):∃p c,v=.slice p l.length c:=by
 rcases h with⟨c,rfl,rfl⟩|⟨g,cap,rfl,-⟩<;>exact⟨_,_,rfl⟩
def anyB(_:Nat):Prop:=True
def GlobsR(w:World)(v:Value)(l:List LGlob):Prop:=
 ∃g cap,v=.slice (some ⟨g,0,none⟩) l.length cap∧l.length<cap∧g<w.heap.size∧(∀i (h:i<l.length),∃cv,w.cell? ⟨g,i*4,none⟩=some (.string l[i].name)∧w.cell? ⟨g,i*4+1,none⟩=some (.int .i64 l[i].arity)∧w.cell? ⟨g,i*4+2,none⟩=some (.bool l[i].exp)∧w.cell? ⟨g,i*4+3,none⟩=some cv∧CodeR w anyB cv l[i].code)∧w.cell? ⟨g,l.length*4+1,none⟩=some (.int .i64 (-77))
theorem GlobsR.keep{w w':World}{v:Value}{l:List LGlob}(h:GlobsR w v l)(hb:Below w.heap.size w w'):GlobsR w' v l:=by
 obtain⟨g,cap,e,h1,h3,h4,h5⟩:=h;refine⟨g,cap,e,h1,Nat.lt_of_lt_of_le h3 hb.size,λi hi=>?_,cell_keep hb h5⟩;obtain⟨cv,a0,a1,a2,a3,a4⟩:=h4 i hi;exact⟨cv,cell_keep hb a0,cell_keep hb a1,cell_keep hb a2,cell_keep hb a3,a4.keep hb⟩
theorem GlobsR.of_row{w:World}{base g cap:Nat}{gl:List (LGlob×Value)}(h:w.ownsRow base 40 4 (.slice (some ⟨g,0,none⟩) (gl.length+1) cap) (gl.length+1) (globCells gl++[.string ⟨#[]⟩,.int .i64 (-77),.bool false,.slice none 0 0]))(P:Nat->Prop)(ha:∀y∈gl,CodeR w P y.2 y.1.code):GlobsR w (.slice (some ⟨g,0,none⟩) gl.length cap) (gl.map (·.1)):=by
 obtain⟨h1,h2,h3⟩:=row_lt h;have hl:=globCells_len gl;refine⟨g,cap,by simp,by simp;omega,h1,λi hi=>?_,?_⟩
 ·have hi':i<gl.length:=by simpa using hi
  obtain⟨f0,f1,f2,f3⟩:=flat4_at (λx:LGlob×Value=>Value.string x.1.name) (λx=>Value.int .i64 x.1.arity) (λx=>Value.bool x.1.exp) (λx=>x.2) gl i hi';refine⟨gl[i].2,?_,?_,?_,?_,by simpa using(ha _ (List.getElem_mem hi')).weak (P':=anyB) (λ_ _=>trivial)⟩
  ·rw[h.cellAt _ (by omega),List.getElem?_append_left (by omega)];simp only[List.getElem_map];exact f0
  ·rw[h.cellAt _ (by omega),List.getElem?_append_left (by omega)];simp only[List.getElem_map];exact f1
  ·rw[h.cellAt _ (by omega),List.getElem?_append_left (by omega)];simp only[List.getElem_map];exact f2
  ·rw[h.cellAt _ (by omega),List.getElem?_append_left (by omega)];exact f3
 ·rw[List.length_map,h.cellAt _ (by omega),List.getElem?_append_right (by omega),hl,show gl.length*4+1-gl.length*4=1 by omega];rfl
theorem GlobsR.at{w:World}{v:Value}{l:List LGlob}(h:GlobsR w v l)(hs:short l.length)(hn:∀i (hi:i<l.length),l[i].name.size<=maxLen∧short l[i].code.length∧∀j (hj:j<l[i].code.length),short l[i].code[j].alts.length):GlobsAt w v l:=by
 obtain⟨g,cap,e,h1,h3,h4,h5⟩:=h;refine⟨_,cap,e,hs,λi hi=>?_⟩;obtain⟨cv,a0,a1,a2,a3,a4⟩:=h4 i hi;exact⟨g,0,cv,rfl,by rw[Nat.zero_add];exact a0,by rw[Nat.zero_add];exact a1,by rw[Nat.zero_add];exact a2,by rw[Nat.zero_add];exact a3,a4.at (hn i hi).2.1 (hn i hi).2.2,(hn i hi).1⟩
theorem row_keep{w w':World}{base:Nat}{e:TypeId}{size n:Nat}{v:Value}{xs:List Value}(h:w.ownsRow base e size v n xs)(hb:Below w.heap.size w w'):w'.ownsRow base e size v n xs:=
 h.kept (row:=none) ⟨hb.os,hb.tape,hb.output,hb.size,λk hk _=>hb.block k hk⟩ (by cases v.ownBlock<;>simp)
theorem row_slice{w:World}{base:Nat}{e:TypeId}{size n:Nat}{v:Value}{xs:List Value}(h:w.ownsRow base e size v n xs):∃p c,v=.slice p n c:=by
 rcases h.2 with⟨rfl,rfl⟩|⟨g,cap,cur,rfl,-⟩<;>exact⟨_,_,rfl⟩
theorem row_fresh{w:World}{n:Nat}{e:TypeId}{size:Nat}{v:Value}{xs:List Value}{base:Nat}(h:w.ownsRow base e size v n xs):∀y,v.ownBlock=some y->y<w.heap.size:=λy hy=>(h.lt y hy).2
structure OutR (wc wr:World) (l:Value) (n:Nat) (gl:List (LGlob×Value)) (globs:List LGlob):Prop where
 below:Below wc.heap.size wc wr
 row:wr.ownsRow wc.heap.size 40 4 l n (globCells gl)
 fst:gl.map (·.1)=globs.take n
 code:∀x∈gl,CodeR wr (okB wc.heap.size l.ownBlock) x.2 x.1.code
structure InR (wc wr:World) (l:Value) (n:Nat) (il:List (LIns×Value)) (code:List LIns):Prop where
 below:Below wc.heap.size wc wr
 row:wr.ownsRow wc.heap.size 37 3 l n (insCells il)
 fst:il.map (·.1)=code.take n
 alts:∀x∈il,AltsR wr (okB wc.heap.size l.ownBlock) x.2 x.1.alts
theorem OutR.first(wc:World)(globs:List LGlob):OutR wc wc (.slice none 0 0) 0 [] globs:=⟨Below.refl _ _,⟨rfl,Or.inl ⟨rfl,rfl⟩⟩,rfl,λx hx=>by cases hx⟩
theorem InR.first(wc:World)(code:List LIns):InR wc wc (.slice none 0 0) 0 [] code:=⟨Below.refl _ _,⟨rfl,Or.inl ⟨rfl,rfl⟩⟩,rfl,λx hx=>by cases hx⟩
structure IB (wr wx:World) (x0 x1 x2:Value):Prop where
 below:Below wr.heap.size wr wx
 c0:wx.cell? ⟨wr.heap.size,0,none⟩=some x0
 c1:wx.cell? ⟨wr.heap.size,1,none⟩=some x1
 c2:wx.cell? ⟨wr.heap.size,2,none⟩=some x2
 f2:wx.frozen? ⟨wr.heap.size,2,none⟩=false
 lt:wr.heap.size<wx.heap.size
theorem IB.first(wr:World)(x0 x1 x2:Value)(t:TypeId):IB wr (wr.alloc (.cells #[x0,x1,x2] t)) x0 x1 x2:=by
 have c:=λ(i:Nat) (v:Value) (h:#[x0,x1,x2][i]?=some v)=>alloc_cell wr #[x0,x1,x2] t i v h;exact⟨(Below.refl _ _).alloc (Nat.le_refl _) _,c 0 _ rfl,c 1 _ rfl,c 2 _ rfl,frozen_new _ _ _ _,by simp⟩
theorem IB.keep{wr wx w':World}{x0 x1 x2:Value}(h:IB wr wx x0 x1 x2)(hb:Below wx.heap.size wx w'):IB wr w' x0 x1 x2:=
 ⟨h.below.trans (hb.mono h.below.size),cell_keep hb h.c0,cell_keep hb h.c1,cell_keep hb h.c2,by rw[(bcell hb).2 _ _ h.lt];exact h.f2,Nat.lt_of_lt_of_le h.lt hb.size⟩
theorem IB.put{wr wx:World}{x0 x1 x2:Value}(h:IB wr wx x0 x1 x2)(y:Value):IB wr (wx.setCell ⟨wr.heap.size,2,none⟩ y) x0 x1 y:=by
 have no:∀{c:Nat},c≠2->(⟨wr.heap.size,2,none⟩:Addr)≠⟨wr.heap.size,c,none⟩:=λh e=>h (congrArg Addr.off e).symm;refine⟨h.below.setCell (Nat.le_refl _) _,?_,?_,World.cell?_setCell_same _ _ _ h.c2,by rw[World.frozen?_setCell];exact h.f2,by simpa using h.lt⟩
 ·rw[World.cell?_setCell_other _ _ _ _ (no (by omega))];exact h.c0
 ·rw[World.cell?_setCell_other _ _ _ _ (no (by omega))];exact h.c1
structure GB (wr wx:World) (x0 x1 x2 x3:Value):Prop where
 below:Below wr.heap.size wr wx
 c0:wx.cell? ⟨wr.heap.size,0,none⟩=some x0
 c1:wx.cell? ⟨wr.heap.size,1,none⟩=some x1
 c2:wx.cell? ⟨wr.heap.size,2,none⟩=some x2
 c3:wx.cell? ⟨wr.heap.size,3,none⟩=some x3
 f3:wx.frozen? ⟨wr.heap.size,3,none⟩=false
 lt:wr.heap.size<wx.heap.size
theorem GB.first(wr:World)(x0 x1 x2 x3:Value)(t:TypeId):GB wr (wr.alloc (.cells #[x0,x1,x2,x3] t)) x0 x1 x2 x3:=by
 have c:=λ(i:Nat) (v:Value) (h:#[x0,x1,x2,x3][i]?=some v)=>alloc_cell wr #[x0,x1,x2,x3] t i v h;exact⟨(Below.refl _ _).alloc (Nat.le_refl _) _,c 0 _ rfl,c 1 _ rfl,c 2 _ rfl,c 3 _ rfl,frozen_new _ _ _ _,by simp⟩
theorem GB.keep{wr wx w':World}{x0 x1 x2 x3:Value}(h:GB wr wx x0 x1 x2 x3)(hb:Below wx.heap.size wx w'):GB wr w' x0 x1 x2 x3:=
 ⟨h.below.trans (hb.mono h.below.size),cell_keep hb h.c0,cell_keep hb h.c1,cell_keep hb h.c2,cell_keep hb h.c3,by rw[(bcell hb).2 _ _ h.lt];exact h.f3,Nat.lt_of_lt_of_le h.lt hb.size⟩
theorem GB.put{wr wx:World}{x0 x1 x2 x3:Value}(h:GB wr wx x0 x1 x2 x3)(y:Value):GB wr (wx.setCell ⟨wr.heap.size,3,none⟩ y) x0 x1 x2 y:=by
 have no:∀{c:Nat},c≠3->(⟨wr.heap.size,3,none⟩:Addr)≠⟨wr.heap.size,c,none⟩:=λh e=>h (congrArg Addr.off e).symm;refine⟨h.below.setCell (Nat.le_refl _) _,?_,?_,?_,World.cell?_setCell_same _ _ _ h.c3,by rw[World.frozen?_setCell];exact h.f3,by simpa using h.lt⟩
 ·rw[World.cell?_setCell_other _ _ _ _ (no (by omega))];exact h.c0
 ·rw[World.cell?_setCell_other _ _ _ _ (no (by omega))];exact h.c1
 ·rw[World.cell?_setCell_other _ _ _ _ (no (by omega))];exact h.c2
theorem InR.next{wc wr wx X w1:World}{l:Value}{n g cap:Nat}{il:List (LIns×Value)}{code:List LIns}{av:Value}(h:InR wc wr l n il code)(hn:n<code.length)(hb:Below wr.heap.size wr wx)(hX:Below wx.heap.size wx X)
 (ha:AltsR wx (okB wc.heap.size l.ownBlock) av code[n].alts)
 (hown:w1.ownsRow wc.heap.size 37 3 (.slice (some ⟨g,0,none⟩) (n+1) cap) (n+1) (insCells il++[.int .i64 code[n].op,.int .i64 code[n].a,av])) (hg:X.grownBy w1 l.ownBlock) (hat:l.ownBlock=some g∨g=X.heap.size):
 InR wc w1 (.slice (some ⟨g,0,none⟩) (n+1) cap) (n+1) (il++[(code[n],av)]) code:=by
 have hm:moved X l.ownBlock (Value.ownBlock (.slice (some ⟨g,0,none⟩) (n+1) cap)):=by
  rcases hat with e|rfl
  ·exact Or.inl e.symm
  ·exact Or.inr rfl
 have hbx:Below wr.heap.size wr X:=hb.trans (hX.mono hb.size);refine⟨?_,by simpa[insCells]using hown,?_,λx hx=>?_⟩
 ·refine Below.grown (h.below.trans (hbx.mono h.below.size)) hg (Nat.le_trans h.below.size hbx.size) λk hk=>(h.row.lt k hk).1
 ·rw[List.map_append,h.fst,List.take_add_one,List.getElem?_eq_getElem hn];rfl
 ·rcases List.mem_append.1 hx with hx|hx
  ·exact((h.alts x hx).keep hbx).grown hg hm
  ·simp only[List.mem_singleton]at hx;subst hx;exact(ha.keep hX).grown hg hm
theorem OutR.next{wc wr wx X w1:World}{l:Value}{n g cap:Nat}{gl:List (LGlob×Value)}{globs:List LGlob}{cv:Value}(h:OutR wc wr l n gl globs)(hn:n<globs.length)(hb:Below wr.heap.size wr wx)(hX:Below wx.heap.size wx X)
 (ha:CodeR wx (okB wc.heap.size l.ownBlock) cv globs[n].code)
 (hown:w1.ownsRow wc.heap.size 40 4 (.slice (some ⟨g,0,none⟩) (n+1) cap) (n+1) (globCells gl++[.string globs[n].name,.int .i64 globs[n].arity,.bool globs[n].exp,cv])) (hg:X.grownBy w1 l.ownBlock) (hat:l.ownBlock=some g∨g=X.heap.size):
 OutR wc w1 (.slice (some ⟨g,0,none⟩) (n+1) cap) (n+1) (gl++[(globs[n],cv)]) globs:=by
 have hm:moved X l.ownBlock (Value.ownBlock (.slice (some ⟨g,0,none⟩) (n+1) cap)):=by
  rcases hat with e|rfl
  ·exact Or.inl e.symm
  ·exact Or.inr rfl
 have hbx:Below wr.heap.size wr X:=hb.trans (hX.mono hb.size);refine⟨?_,by simpa[globCells]using hown,?_,λx hx=>?_⟩
 ·refine Below.grown (h.below.trans (hbx.mono h.below.size)) hg (Nat.le_trans h.below.size hbx.size) λk hk=>(h.row.lt k hk).1
 ·rw[List.map_append,h.fst,List.take_add_one,List.getElem?_eq_getElem hn];rfl
 ·rcases List.mem_append.1 hx with hx|hx
  ·exact((h.code x hx).keep hbx).grown hg hm
  ·simp only[List.mem_singleton]at hx;subst hx;exact(ha.keep hX).grown hg hm
def FinR(wc w1:World)(v:Value)(globs:List LGlob):Prop:=
 ∃(gl:List (LGlob×Value)) (g cap:Nat) (x:Option Nat),v=.slice (some ⟨g,0,none⟩) gl.length cap∧gl.map (·.1)=globs∧w1.ownsRow wc.heap.size 40 4 (.slice (some ⟨g,0,none⟩) (gl.length+1) cap) (gl.length+1) (globCells gl++[.string ⟨#[]⟩,.int .i64 (-77),.bool false,.slice none 0 0])∧∀y∈gl,CodeR w1 (okB wc.heap.size x) y.2 y.1.code
theorem FinR.set{wc w1:World}{v u:Value}{globs:List LGlob}{b o:Nat}(h:FinR wc w1 v globs)(hb:b<wc.heap.size):FinR wc (w1.setCell ⟨b,o,none⟩ u) v globs:=by
 obtain⟨gl,g,cap,x,e,h1,h2,h3⟩:=h;exact⟨gl,g,cap,x,e,h1,ownsRow_setCell_below h2 hb _,λy hy=>(h3 y hy).set λh=>by have:=h.1;omega⟩
theorem FinR.globs{wc w1:World}{v:Value}{globs:List LGlob}(h:FinR wc w1 v globs):GlobsR w1 v globs:=by
 obtain⟨gl,g,cap,x,rfl,rfl,h2,h3⟩:=h;exact GlobsR.of_row h2 _ h3
theorem OutR.last{wc wr X w1:World}{l:Value}{n g cap:Nat}{gl:List (LGlob×Value)}{globs:List LGlob}(h:OutR wc wr l n gl globs)(hn:n=globs.length)(hX:Below wr.heap.size wr X)
 (hown:w1.ownsRow wc.heap.size 40 4 (.slice (some ⟨g,0,none⟩) (n+1) cap) (n+1) (globCells gl++[.string ⟨#[]⟩,.int .i64 (-77),.bool false,.slice none 0 0])) (hg:X.grownBy w1 l.ownBlock) (hat:l.ownBlock=some g∨g=X.heap.size):
 FinR wc w1 (.slice (some ⟨g,0,none⟩) n cap) globs∧Below wc.heap.size wc w1∧(n:Int)<=cap:=by
 have hm:moved X l.ownBlock (some g):=by
  rcases hat with e|rfl
  ·exact Or.inl e.symm
  ·exact Or.inr rfl
 have hf:gl.map (·.1)=globs:=by rw[h.fst,hn,List.take_length]
 have hl:gl.length=n:=by rw[hn,<-hf,List.length_map]
 refine⟨⟨gl,g,cap,some g,by rw[hl],hf,by rw[hl];exact hown,λx hx=>((h.code x hx).keep hX).grown hg hm⟩,?_,?_⟩
 ·exact Below.grown (h.below.trans (hX.mono h.below.size)) hg (Nat.le_trans h.below.size hX.size) λk hk=>(h.row.lt k hk).1
 ·have:=(row_lt hown).2.2;omega
def FinC(wc w1:World)(v:Value)(code:List LIns):Prop:=
 ∃(il:List (LIns×Value)) (g cap:Nat) (x:Option Nat),v=.slice (some ⟨g,0,none⟩) il.length cap∧il.map (·.1)=code∧w1.ownsRow wc.heap.size 37 3 (.slice (some ⟨g,0,none⟩) (il.length+1) cap) (il.length+1) (insCells il++[.int .i64 0,.int .i64 (-77),.slice none 0 0])∧∀y∈il,AltsR w1 (okB wc.heap.size x) y.2 y.1.alts
theorem FinC.set{wc w1:World}{v u:Value}{code:List LIns}{b o:Nat}(h:FinC wc w1 v code)(hb:b<wc.heap.size):FinC wc (w1.setCell ⟨b,o,none⟩ u) v code:=by
 obtain⟨il,g,cap,x,e,h1,h2,h3⟩:=h;exact⟨il,g,cap,x,e,h1,ownsRow_setCell_below h2 hb _,λy hy=>(h3 y hy).set λh=>by have:=h.1;omega⟩
theorem FinC.code{wc w1:World}{v:Value}{code:List LIns}(h:FinC wc w1 v code)(P:Nat->Prop)(hP:∀y,wc.heap.size<=y->P y):CodeR w1 P v code:=by
 obtain⟨il,g,cap,x,rfl,rfl,h2,h3⟩:=h;exact CodeR.of_row P hP h2 λy hy=>(h3 y hy).weak λb hb=>hP b hb.1
theorem InR.last{wc wr X w1:World}{l:Value}{n g cap:Nat}{il:List (LIns×Value)}{code:List LIns}(h:InR wc wr l n il code)(hn:n=code.length)(hX:Below wr.heap.size wr X)
 (hown:w1.ownsRow wc.heap.size 37 3 (.slice (some ⟨g,0,none⟩) (n+1) cap) (n+1) (insCells il++[.int .i64 0,.int .i64 (-77),.slice none 0 0])) (hg:X.grownBy w1 l.ownBlock) (hat:l.ownBlock=some g∨g=X.heap.size):
 FinC wc w1 (.slice (some ⟨g,0,none⟩) n cap) code∧Below wc.heap.size wc w1∧(n:Int)<=cap:=by
 have hm:moved X l.ownBlock (some g):=by
  rcases hat with e|rfl
  ·exact Or.inl e.symm
  ·exact Or.inr rfl
 have hf:il.map (·.1)=code:=by rw[h.fst,hn,List.take_length]
 have hl:il.length=n:=by rw[hn,<-hf,List.length_map]
 refine⟨⟨il,g,cap,some g,by rw[hl],hf,by rw[hl];exact hown,λx hx=>((h.alts x hx).keep hX).grown hg hm⟩,?_,?_⟩
 ·exact Below.grown (h.below.trans (hX.mono h.below.size)) hg (Nat.le_trans h.below.size hX.size) λk hk=>(h.row.lt k hk).1
 ·have:=(row_lt hown).2.2;omega
structure RB (w wx:World) (nm:ByteArray) (iv gv iv':Value):Prop where
 below:Below w.heap.size w wx
 o1:wx.cell? ⟨w.heap.size,1,none⟩=some iv
 o2:wx.cell? ⟨w.heap.size,2,none⟩=some gv
 z0:wx.cell? ⟨w.heap.size+1,0,none⟩=some (.string ⟨#[]⟩)
 z1:wx.cell? ⟨w.heap.size+1,1,none⟩=some (.slice none 0 0)
 z2:wx.cell? ⟨w.heap.size+1,2,none⟩=some (.slice none 0 0)
 zf:∀j,j<3->wx.frozen? ⟨w.heap.size+1,j,none⟩=false
 r0:wx.cell? ⟨w.heap.size+1+1,0,none⟩=some (.string nm)
 r1:wx.cell? ⟨w.heap.size+1+1,1,none⟩=some iv'
 r2:wx.cell? ⟨w.heap.size+1+1,2,none⟩=some gv
 rf:∀j,j<3->wx.frozen? ⟨w.heap.size+1+1,j,none⟩=false
 lt:w.heap.size+1+1<wx.heap.size
theorem RB.first(w:World)(nm:ByteArray)(iv gv:Value):RB w (((w.alloc (.cells #[.string nm,iv,gv] 44)).alloc (.cells #[.string ⟨#[]⟩,.slice none 0 0,.slice none 0 0] 44)).alloc (.cells #[.string nm,iv,gv] 44)) nm iv gv iv:=by
 have c:=λ(i:Nat) (v:Value) (h:#[Value.string nm,iv,gv][i]?=some v)=>alloc_cell w #[.string nm,iv,gv] 44 i v h;have e1:(w.alloc (.cells #[.string nm,iv,gv] 44)).heap.size=w.heap.size+1:=by simp
 have d:=λ(i:Nat) (v:Value) (h:#[Value.string ⟨#[]⟩,.slice none 0 0,.slice none 0 0][i]?=some v)=>alloc_cell (w.alloc (.cells #[.string nm,iv,gv] 44)) #[.string ⟨#[]⟩,.slice none 0 0,.slice none 0 0] 44 i v h;rw[e1]at d;have e2:((w.alloc (.cells #[.string nm,iv,gv] 44)).alloc (.cells #[.string ⟨#[]⟩,.slice none 0 0,.slice none 0 0] 44)).heap.size=w.heap.size+1+1:=by simp
 have r:=λ(i:Nat) (v:Value) (h:#[Value.string nm,iv,gv][i]?=some v)=>alloc_cell ((w.alloc (.cells #[.string nm,iv,gv] 44)).alloc (.cells #[.string ⟨#[]⟩,.slice none 0 0,.slice none 0 0] 44)) #[.string nm,iv,gv] 44 i v h;rw[e2]at r;refine⟨(((Below.refl _ _).alloc (Nat.le_refl _) _).alloc (by simp) _).alloc (by simp;omega) _,alloc_old _ _ _ _ _ (alloc_old _ _ _ _ _ (c 1 _ rfl)),alloc_old _ _ _ _ _ (alloc_old _ _ _ _ _ (c 2 _ rfl)),alloc_old _ _ _ _ _ (d 0 _ rfl),alloc_old _ _ _ _ _ (d 1 _ rfl),alloc_old _ _ _ _ _ (d 2 _ rfl),λj _=>?_,r 0 _ rfl,r 1 _ rfl,r 2 _ rfl,λj _=>?_,by simp⟩
 ·rw[<-e1,World.frozen?_alloc_old _ _ _ (by simp)];exact frozen_new _ _ _ _
 ·rw[<-e2];exact frozen_new _ _ _ _
theorem RB.keep{w wx w':World}{nm:ByteArray}{iv gv iv':Value}(h:RB w wx nm iv gv iv')(hb:Below wx.heap.size wx w'):RB w w' nm iv gv iv':=
 ⟨h.below.trans (hb.mono h.below.size),cell_keep hb h.o1,cell_keep hb h.o2,cell_keep hb h.z0,cell_keep hb h.z1,cell_keep hb h.z2,λj hj=>by rw[(bcell hb).2 _ _ (block_lt_of_cell h.z0)];exact h.zf j hj,cell_keep hb h.r0,cell_keep hb h.r1,cell_keep hb h.r2,λj hj=>by rw[(bcell hb).2 _ _ (block_lt_of_cell h.r0)];exact h.rf j hj,Nat.lt_of_lt_of_le h.lt hb.size⟩
theorem RB.put1{w wx:World}{nm:ByteArray}{iv gv iv':Value}(h:RB w wx nm iv gv iv')(x:Value):RB w (wx.setCell ⟨w.heap.size+1+1,1,none⟩ x) nm iv gv x:=by
 have ne:∀{b c:Nat},b≠w.heap.size+1+1->(⟨w.heap.size+1+1,1,none⟩:Addr)≠⟨b,c,none⟩:=λh e=>h (congrArg Addr.block e).symm;have no:∀{c:Nat},c≠1->(⟨w.heap.size+1+1,1,none⟩:Addr)≠⟨w.heap.size+1+1,c,none⟩:=λh e=>h (congrArg Addr.off e).symm;refine⟨h.below.setCell (by simp;omega) _,?_,?_,?_,?_,?_,λj hj=>?_,?_,World.cell?_setCell_same _ _ _ h.r1,?_,λj hj=>?_,by simpa using h.lt⟩
 ·rw[World.cell?_setCell_other _ _ _ _ (ne (by omega))];exact h.o1
 ·rw[World.cell?_setCell_other _ _ _ _ (ne (by omega))];exact h.o2
 ·rw[World.cell?_setCell_other _ _ _ _ (ne (by omega))];exact h.z0
 ·rw[World.cell?_setCell_other _ _ _ _ (ne (by omega))];exact h.z1
 ·rw[World.cell?_setCell_other _ _ _ _ (ne (by omega))];exact h.z2
 ·rw[World.frozen?_setCell];exact h.zf j hj
 ·rw[World.cell?_setCell_other _ _ _ _ (no (by omega))];exact h.r0
 ·rw[World.cell?_setCell_other _ _ _ _ (no (by omega))];exact h.r2
 ·rw[World.frozen?_setCell];exact h.rf j hj
theorem RB.put2{w wx:World}{nm:ByteArray}{iv gv iv':Value}(h:RB w wx nm iv gv iv')(x:Value):(wx.setCell ⟨w.heap.size+1+1,2,none⟩ x).cell? ⟨w.heap.size+1,0,none⟩=some (.string ⟨#[]⟩)∧(wx.setCell ⟨w.heap.size+1+1,2,none⟩ x).cell? ⟨w.heap.size+1,1,none⟩=some (.slice none 0 0)∧(wx.setCell ⟨w.heap.size+1+1,2,none⟩ x).cell? ⟨w.heap.size+1,2,none⟩=some (.slice none 0 0):=by
 have ne:∀{b c:Nat},b≠w.heap.size+1+1->(⟨w.heap.size+1+1,2,none⟩:Addr)≠⟨b,c,none⟩:=λh e=>h (congrArg Addr.block e).symm;refine⟨?_,?_,?_⟩
 ·rw[World.cell?_setCell_other _ _ _ _ (ne (by omega))];exact h.z0
 ·rw[World.cell?_setCell_other _ _ _ _ (ne (by omega))];exact h.z1
 ·rw[World.cell?_setCell_other _ _ _ _ (ne (by omega))];exact h.z2
theorem put3{w:World}{b:Nat}{x0 x1 x2:Value}(c0:w.cell? ⟨b,0,none⟩=some x0)(c1:w.cell? ⟨b,1,none⟩=some x1)(c2:w.cell? ⟨b,2,none⟩=some x2)(y0 y1 y2:Value):
 (w.setCell ⟨b,0,none⟩ y0).cell? ⟨b,0,none⟩=some y0∧((w.setCell ⟨b,0,none⟩ y0).setCell ⟨b,1,none⟩ y1).cell? ⟨b,1,none⟩=some y1∧(((w.setCell ⟨b,0,none⟩ y0).setCell ⟨b,1,none⟩ y1).setCell ⟨b,2,none⟩ y2).cell? ⟨b,2,none⟩=some y2:=by
 have no:∀{c d:Nat},c≠d->(⟨b,c,none⟩:Addr)≠⟨b,d,none⟩:=λh e=>h (congrArg Addr.off e);refine⟨World.cell?_setCell_same _ _ _ c0,World.cell?_setCell_same _ _ _ (u:=x1) ?_,World.cell?_setCell_same _ _ _ (u:=x2) ?_⟩
 ·rw[World.cell?_setCell_other _ _ _ _ (no (by decide))];exact c1
 ·rw[World.cell?_setCell_other _ _ _ _ (no (by decide)),World.cell?_setCell_other _ _ _ _ (no (by decide))];exact c2
end Go.Proofs.YtlccndplhfcknaaGreatDoor
namespace Go.Proofs.YtlccndplhfcknaaGreatDoor
open Go.RowKit
def needR(m:Nat)(a:Int):Int:=
 if m=0∨m=1 then 0 else if m=2 then a+1 else if m=4 then a+1 else if m=5 then a+2 else if m=6 then a else if m=7 then 0 else if m=8∨m=17∨m=19 then 1 else if m=15 then a % 256 else if m=16 then 1 else if m=18∨m=20 then 0 else 2
def moreR(m:Nat)(a:Int):Int:=
 if m=0∨m=1 then 1 else if m=2 then 1 else if m=4 then -a else if m=5 then -1 else if m=6 then -a else if m=7 then a else if m=8∨m=17∨m=19 then 0 else if m=15 then 1-a % 256 else if m=16 then a-1 else if m=18∨m=20 then 0 else -1
theorem all21(m:Nat)(h:m<21):m=0∨m=1∨m=2∨m=3∨m=4∨m=5∨m=6∨m=7∨m=8∨m=9∨m=10∨m=11∨m=12∨m=13∨m=14∨m=15∨m=16∨m=17∨m=18∨m=19∨m=20:=by omega
theorem effect_any(m:Nat)(hm:m<21)(a:Int)(ap:Option Addr)(an ac:Nat)(w:World)(ha:m≠0->0<=a∧a<=65535):
 Calls Tryz.prog 85 #[.agg #[.int .i64 m,.int .i64 a,.slice ap an ac]] w λe w'=>e=.returned (.tuple #[.int .i64 (needR m a),.int .i64 (moreR m a)])∧Below w.heap.size w w':=by
 by_cases h0:m=0
 ·subst h0;clear ha hm;go_enter Tryz.func85,Tryz.ntmps85;go_wp2;try(go_quiet (fail))
  try go_wp2
  go_ret2
  refine⟨?_,?_⟩
  ·simp[needR,moreR]
  ·first|exact(Below.refl _ _).alloc (Nat.le_refl _) _|exact below_drewN ((Below.refl _ _).alloc (Nat.le_refl _) _) _
 ·obtain⟨a1,a2⟩:=ha h0;clear ha;rcases all21 m hm with rfl|rfl|rfl|rfl|rfl|rfl|rfl|rfl|rfl|rfl|rfl|rfl|rfl|rfl|rfl|rfl|rfl|rfl|rfl|rfl|rfl
  ·exact absurd rfl h0
  all_goals
   clear hm h0;go_enter Tryz.func85,Tryz.ntmps85;go_wp2;try(go_quiet (fail))
   try go_wp2
   go_ret2
   refine⟨?_,?_⟩
   ·simp[needR,moreR]
   ·first|exact(Below.refl _ _).alloc (Nat.le_refl _) _|exact below_drewN ((Below.refl _ _).alloc (Nat.le_refl _) _) _
theorem refBounds_any(m:Nat)(hm:m<21)(w:World):
 Calls Tryz.prog 65 #[.int .i64 m] w λe w'=>e=.returned (.tuple #[.int .i64 (if m=7 then 1 else if rowN m 0=2 then 0 else 1),.int .i64 (if rowN m 0=2 then rowN m 2 else 0)])∧w'=w:=by
 rcases all21 m hm with rfl|rfl|rfl|rfl|rfl|rfl|rfl|rfl|rfl|rfl|rfl|rfl|rfl|rfl|rfl|rfl|rfl|rfl|rfl|rfl|rfl;all_goals
  clear hm;go_enter Tryz.func65,Tryz.ntmps65;go_wp2;go_ret2
  exact⟨rfl,rfl⟩
def wrongR(m:Nat)(a d:Int):Bool:=decide (d<needR m a)||((m==19) && (d !=1))||decide (1000<d+moreR m a)
theorem moreR_le(m:Nat)(a:Int)(hm:m<21)(ha:m≠0->0<=a∧a<=65535):-65536<=moreR m a∧moreR m a<=65536:=by
 by_cases h0:m=0
 ·subst h0;simp[moreR]
 ·obtain⟨a1,a2⟩:=ha h0;unfold moreR;rcases all21 m hm with rfl|rfl|rfl|rfl|rfl|rfl|rfl|rfl|rfl|rfl|rfl|rfl|rfl|rfl|rfl|rfl|rfl|rfl|rfl|rfl|rfl<;>simp<;>omega
theorem wrong_any(m:Nat)(hm:m<21)(a d:Int)(ap:Option Addr)(an ac:Nat)(w:World)(ha:m≠0->0<=a∧a<=65535)(hd:0<=d∧d<=100000):
 Calls Tryz.prog 68 #[.agg #[.int .i64 m,.int .i64 a,.slice ap an ac],.int .i64 d] w λe w'=>e=.returned (.bool (wrongR m a d))∧Below w.heap.size w w':=by
 have hml:=moreR_le m a hm ha;obtain⟨l1,l2⟩:=hml;obtain⟨d1,d2⟩:=hd;have HE:Hid (∀w,Calls Tryz.prog 85 #[.agg #[.int .i64 m,.int .i64 a,.slice ap an ac]] w λe w'=>e=.returned (.tuple #[.int .i64 (needR m a),.int .i64 (moreR m a)])∧Below w.heap.size w w'):=λw=>effect_any m hm a ap an ac w ha;have HW:Hid (wrongR m a d=(decide (d<needR m a)||((m==19) && (d !=1))||decide (1000<d+moreR m a))):=rfl;clear ha;generalize needR m a=nd at*;generalize moreR m a=mr at*;have e19:((m:Int)==19)=(m==19):=by rw[Bool.eq_iff_iff,beq_iff_eq,beq_iff_eq];omega
 cases h19:(m==19)
 ·rw[h19]at e19 HW;clear h19;go_enter Tryz.func68,Tryz.ntmps68;go_wp2_with (first|(go_at_call 85;refine(HE.out _).mono ?_;rintro e w1 ⟨rfl,hb1⟩;obtain⟨z0,z1⟩:=bcell hb1))
  all_goals
   go_ret;refine⟨ret_bool' ?_,((Below.refl _ _).alloc (Nat.le_refl _) _).trans (hb1.mono (by simp))⟩;rw[HW.out];simp_all;try omega
 ·rw[h19]at e19 HW;clear h19;go_enter Tryz.func68,Tryz.ntmps68;go_wp2_with (first|(go_at_call 85;refine(HE.out _).mono ?_;rintro e w1 ⟨rfl,hb1⟩;obtain⟨z0,z1⟩:=bcell hb1))
  all_goals
   go_ret;refine⟨ret_bool' ?_,((Below.refl _ _).alloc (Nat.le_refl _) _).trans (hb1.mono (by simp))⟩;rw[HW.out];simp_all;try omega
end Go.Proofs.YtlccndplhfcknaaGreatDoor
namespace Go.Proofs.YtlccndplhfcknaaGreatDoor
open Go.RowKit Go.Sort
def Fr(bs:List Nat)(w w':World):Prop:=∀b∈bs,w'.heap[b]?=w.heap[b]?
theorem Fr.refl(bs:List Nat)(w:World):Fr bs w w:=λ_ _=>rfl
theorem Fr.trans{bs:List Nat}{w w1 w2:World}(h:Fr bs w w1)(k:Fr bs w1 w2):Fr bs w w2:=λb hb=>(k b hb).trans (h b hb)
def vB(v:Value):List Nat:=v.ownBlock.toList
theorem mem_vB{v:Value}{b:Nat}:b∈vB v↔v.ownBlock=some b:=by
 unfold vB;cases v.ownBlock<;>simp[eq_comm]
theorem vB_slice(g n c:Nat):vB (.slice (some ⟨g,0,none⟩) n c)=[g]:=rfl
theorem row_fr{w w':World}{B:Nat}{e:TypeId}{size n:Nat}{v:Value}{xs:List Value}(h:w.ownsRow B e size v n xs)(hf:Fr (vB v) w w'):w'.ownsRow B e size v n xs:=by
 refine⟨h.1,?_⟩;rcases h.2 with hn|⟨g,cap,cur,rfl,hb,hgg,rest⟩
 ·exact .inl hn
 ·refine .inr ⟨g,cap,cur,rfl,hb,?_,rest⟩;rw[hf g (by simp[vB,Value.ownBlock])];exact hgg
section
variable {α:Type} (cells:α->List Value) (sub:α->List Nat) (ok:World->α->Prop) (e:TypeId) (size:Nat)
variable {cells:α->List Value} {sub:α->List Nat} {ok:World->α->Prop} {e:TypeId} {size:Nat}
end
def insC(x:LIns×Value):List Value:=[.int .i64 x.1.op,.int .i64 x.1.a,x.2]
theorem row_at{w:World}{e:TypeId}{size n:Nat}{v:Value}{xs:List Value}(h:w.ownsRow 0 e size v n xs):(v=.slice none 0 0∧n=0)∨∃g cap,v=.slice (some ⟨g,0,none⟩) n cap∧g<w.heap.size∧∀j,j<n*size->w.cell? ⟨g,j,none⟩=xs[j]?:=by
 rcases h.2 with⟨h1,h2⟩|⟨g,cap,cur,rfl,hb,hgg,rest⟩
 ·exact Or.inl ⟨h1,h2⟩
 ·exact Or.inr ⟨g,cap,rfl,(row_lt h).1,λj hj=>h.cellAt j hj⟩
end Go.Proofs.YtlccndplhfcknaaGreatDoor
