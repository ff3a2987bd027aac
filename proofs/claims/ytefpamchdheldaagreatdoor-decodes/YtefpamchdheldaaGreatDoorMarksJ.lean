import Derived.Test.YtefpamchdheldaaGreatDoorSameJ
import Derived.Test.YtefpamchdheldaaGreatDoorWrongJ
import Derived.Deep.RegionLaw
namespace Go.Proofs.YtefpamchdheldaaGreatDoor
open Go.RowKit Go.Sort
theorem flat2_at{α:Type}(f g:α->Value):∀(l:List α) (i:Nat) (h:i<l.length),(l.flatMap λx=>[f x,g x])[i*2]?=some (f l[i])∧(l.flatMap λx=>[f x,g x])[i*2+1]?=some (g l[i])
 |a::r,0,_=>by simp
 |a::r,i+1,h=>by
  have:=flat2_at f g r i (by simpa using h);simp only[List.flatMap_cons,List.getElem_cons_succ];rw[List.getElem?_append_right (by simp;omega),List.getElem?_append_right (by simp;omega)];simp only[List.length_cons,List.length_nil];rw[show(i+1)*2-(0+1+1)=i*2 by omega,show(i+1)*2+1-(0+1+1)=i*2+1 by omega];exact this
theorem flat3_at{α:Type}(f g k:α->Value):∀(l:List α) (i:Nat) (h:i<l.length),(l.flatMap λx=>[f x,g x,k x])[i*3]?=some (f l[i])∧(l.flatMap λx=>[f x,g x,k x])[i*3+1]?=some (g l[i])∧(l.flatMap λx=>[f x,g x,k x])[i*3+2]?=some (k l[i])
 |a::r,0,_=>by simp
 |a::r,i+1,h=>by
  have:=flat3_at f g k r i (by simpa using h);simp only[List.flatMap_cons,List.getElem_cons_succ];rw[List.getElem?_append_right (by simp;omega),List.getElem?_append_right (by simp;omega),List.getElem?_append_right (by simp;omega)];simp only[List.length_cons,List.length_nil];rw[show(i+1)*3-(0+1+1+1)=i*3 by omega,show(i+1)*3+1-(0+1+1+1)=i*3+1 by omega,show(i+1)*3+2-(0+1+1+1)=i*3+2 by omega];exact this
theorem flat4_at{α:Type}(f g k m:α->Value):∀(l:List α) (i:Nat) (h:i<l.length),(l.flatMap λx=>[f x,g x,k x,m x])[i*4]?=some (f l[i])∧(l.flatMap λx=>[f x,g x,k x,m x])[i*4+1]?=some (g l[i])∧(l.flatMap λx=>[f x,g x,k x,m x])[i*4+2]?=some (k l[i])∧(l.flatMap λx=>[f x,g x,k x,m x])[i*4+3]?=some (m l[i])
 |a::r,0,_=>by simp
 |a::r,i+1,h=>by
  have:=flat4_at f g k m r i (by simpa using h);simp only[List.flatMap_cons,List.getElem_cons_succ];rw[List.getElem?_append_right (by simp;omega),List.getElem?_append_right (by simp;omega),List.getElem?_append_right (by simp;omega),List.getElem?_append_right (by simp;omega)];simp only[List.length_cons,List.length_nil];rw[show(i+1)*4-(0+1+1+1+1)=i*4 by omega,show(i+1)*4+1-(0+1+1+1+1)=i*4+1 by omega,show(i+1)*4+2-(0+1+1+1+1)=i*4+2 by omega,show(i+1)*4+3-(0+1+1+1+1)=i*4+3 by omega];exact this
theorem row_lt{w:World}{base:Nat}{e:TypeId}{size g n cap:Nat}{xs:List Value}(h:w.ownsRow base e size (.slice (some ⟨g,0,none⟩) n cap) n xs):g<w.heap.size∧base<=g∧n<=cap:=by
 rcases h.2 with⟨h0,-⟩|⟨g',cap',cur,hv,hb,hh,hn,-⟩
 ·cases h0
 ·simp at hv;obtain⟨rfl,rfl⟩:=hv;refine⟨?_,hb,hn⟩;rcases Nat.lt_or_ge g w.heap.size with h1|h1
  ·exact h1
  ·rw[Array.getElem?_eq_none h1]at hh;cases hh
theorem row_keep{w w':World}{base:Nat}{e:TypeId}{size n:Nat}{v:Value}{xs:List Value}(h:w.ownsRow base e size v n xs)(hb:Below w.heap.size w w'):w'.ownsRow base e size v n xs:=
 h.kept (row:=none) ⟨hb.os,hb.tape,hb.output,hb.size,λk hk _=>hb.block k hk⟩ (by cases v.ownBlock<;>simp)
theorem row_slice{w:World}{base:Nat}{e:TypeId}{size n:Nat}{v:Value}{xs:List Value}(h:w.ownsRow base e size v n xs):∃p c,v=.slice p n c:=by
 rcases h.2 with⟨rfl,rfl⟩|⟨g,cap,cur,rfl,-⟩<;>exact⟨_,_,rfl⟩
theorem row_fresh{w:World}{n:Nat}{e:TypeId}{size:Nat}{v:Value}{xs:List Value}{base:Nat}(h:w.ownsRow base e size v n xs):∀y,v.ownBlock=some y->y<w.heap.size:=λy hy=>(h.lt y hy).2
def Fr(bs:List Nat)(w w':World):Prop:=∀b∈bs,w'.heap[b]?=w.heap[b]?
theorem Fr.refl(bs:List Nat)(w:World):Fr bs w w:=λ_ _=>rfl
theorem Fr.trans{bs:List Nat}{w w1 w2:World}(h:Fr bs w w1)(k:Fr bs w1 w2):Fr bs w w2:=λb hb=>(k b hb).trans (h b hb)
theorem Fr.sub{bs cs:List Nat}{w w':World}(h:Fr bs w w')(hs:∀b∈cs,b∈bs):Fr cs w w':=λb hb=>h b (hs b hb)
def vB(v:Value):List Nat:=v.ownBlock.toList
theorem mem_vB{v:Value}{b:Nat}:b∈vB v↔v.ownBlock=some b:=by
 unfold vB;cases v.ownBlock<;>simp[eq_comm]
theorem vB_slice(g n c:Nat):vB (.slice (some ⟨g,0,none⟩) n c)=[g]:=rfl
theorem vB_nil(n c:Nat):vB (.slice none n c)=[]:=rfl
theorem row_fr{w w':World}{B:Nat}{e:TypeId}{size n:Nat}{v:Value}{xs:List Value}(h:w.ownsRow B e size v n xs)(hf:Fr (vB v) w w'):w'.ownsRow B e size v n xs:=by
 refine⟨h.1,?_⟩;rcases h.2 with hn|⟨g,cap,cur,rfl,hb,hgg,rest⟩
 ·exact .inl hn
 ·refine .inr ⟨g,cap,cur,rfl,hb,?_,rest⟩;rw[hf g (by simp[vB,Value.ownBlock])];exact hgg
section
variable {α:Type} (cells:α->List Value) (sub:α->List Nat) (ok:World->α->Prop) (e:TypeId) (size:Nat)
def rowB(v:Value)(xs:List α):List Nat:=vB v++xs.flatMap sub
structure RowS (w:World) (lo:Nat) (v:Value) (xs:List α):Prop where
 own:w.ownsRow 0 e size v xs.length (xs.flatMap cells)
 it:∀x∈xs,ok w x
 nd:(rowB sub v xs).Nodup
 rg:∀b∈rowB sub v xs,lo<=b∧b<w.heap.size
variable {cells:α->List Value} {sub:α->List Nat} {ok:World->α->Prop} {e:TypeId} {size:Nat}
def OkFr(sub:α->List Nat)(ok:World->α->Prop):Prop:=∀w w' x,ok w x->w.heap.size<=w'.heap.size->Fr (sub x) w w'->ok w' x
theorem RowS.nil(w:World)(lo:Nat):RowS cells sub ok e size w lo (.slice none 0 0) ([]:List α):=
 ⟨World.ownsRow_nil _ _ _ _,(λ_ h=>absurd h (by simp)),(by simp[rowB,vB_nil]),(λb h=>absurd h (by simp[rowB,vB_nil]))⟩
theorem RowS.fr(hok:OkFr sub ok){w w':World}{lo:Nat}{v:Value}{xs:List α}(h:RowS cells sub ok e size w lo v xs)(hs:w.heap.size<=w'.heap.size)(hf:Fr (rowB sub v xs) w w'):RowS cells sub ok e size w' lo v xs:=by
 refine⟨row_fr h.own (hf.sub λb hb=>List.mem_append_left _ hb),λx hx=>hok w w' x (h.it x hx) hs (hf.sub λb hb=>List.mem_append_right _ (List.mem_flatMap.2 ⟨x,hx,hb⟩)),h.nd,λb hb=>?_⟩;have:=h.rg b hb;omega
theorem RowS.keep(hok:OkFr sub ok){w w':World}{lo:Nat}{v:Value}{xs:List α}(h:RowS cells sub ok e size w lo v xs)(hb:Below w.heap.size w w'):RowS cells sub ok e size w' lo v xs:=
 h.fr hok hb.size λb hb'=>hb.block b (h.rg b hb').2
theorem RowS.low{w:World}{lo lo':Nat}{v:Value}{xs:List α}(h:RowS cells sub ok e size w lo v xs)(hl:lo'<=lo):RowS cells sub ok e size w lo' v xs:=
 ⟨h.own,h.it,h.nd,λb hb=>by have:=h.rg b hb;omega⟩
theorem RowS.slice{w:World}{lo:Nat}{v:Value}{xs:List α}(h:RowS cells sub ok e size w lo v xs):∃p c,v=.slice p xs.length c:=row_slice h.own
theorem RowS.push(hok:OkFr sub ok){w w1 w2:World}{lo:Nat}{v:Value}{xs:List α}(h:RowS cells sub ok e size w lo v xs)(hlo:lo<=w.heap.size)(hf:Fr (rowB sub v xs) w w1)(hs:w.heap.size<=w1.heap.size)
 {x:α} (hx:ok w1 x) (hr:∀b∈sub x,w.heap.size<=b∧b<w1.heap.size) (hnx:(sub x).Nodup) (hg:w1.grownBy w2 v.ownBlock) {g n c:Nat} (hn:n=xs.length+1) (hat:v.ownBlock=some g∨g=w1.heap.size) (hlt:g<w2.heap.size)
 (hown:w2.ownsRow 0 e size (.slice (some ⟨g,0,none⟩) n c) n (xs.flatMap cells++cells x)):RowS cells sub ok e size w2 lo (.slice (some ⟨g,0,none⟩) n c) (xs++[x]):=by
 subst hn;have hsub:∀b∈xs.flatMap sub,lo<=b∧b<w.heap.size∧v.ownBlock≠some b:=by
  intro b hb;have h1:=h.rg b (List.mem_append_right _ hb);refine⟨h1.1,h1.2,λe=>?_⟩;exact(List.nodup_append.1 h.nd).2.2 b (mem_vB.2 e) b hb rfl
 have hnv:∀b∈sub x,v.ownBlock≠some b:=λb hb e=>by
  have h1:=h.rg b (List.mem_append_left _ (mem_vB.2 e));have h2:=hr b hb;omega
 have hgx:g∉sub x:=λhb=>by
  rcases hat with e|e
  ·exact hnv g hb e
  ·have:=hr g hb;omega
 have hgs:g∉xs.flatMap sub:=λhb=>by
  rcases hat with e|e
  ·exact(hsub g hb).2.2 e
  ·have:=hsub g hb;omega
 refine⟨?_,λy hy=>?_,?_,λb hb=>?_⟩
 ·rw[List.length_append,List.flatMap_append];simpa using hown
 ·rcases List.mem_append.1 hy with hy|hy
  ·refine hok w w2 y (h.it y hy) (Nat.le_trans hs hg.size) λb hb=>?_;have hm:=List.mem_flatMap.2 ⟨y,hy,hb⟩;have h1:=hsub b hm;rw[hg.block b (by omega) (λe=>h1.2.2 e.symm)];exact hf b (List.mem_append_right _ hm)
  ·obtain rfl:=List.mem_singleton.1 hy;refine hok w1 w2 y hx hg.size λb hb=>hg.block b (hr b hb).2 (λe=>hnv b hb e.symm)
 ·unfold rowB;rw[vB_slice,List.flatMap_append,List.flatMap_cons,List.flatMap_nil,List.append_nil,List.singleton_append,List.nodup_cons,List.mem_append,List.nodup_append];refine⟨λhb=>hb.elim hgs hgx,(List.nodup_append.1 h.nd).2.1,hnx,λa ha b hb e=>?_⟩;subst e;have h1:=hsub a ha;have h2:=hr a hb;omega
 ·unfold rowB at hb;rw[vB_slice,List.flatMap_append,List.flatMap_cons,List.flatMap_nil,List.append_nil]at hb;have hsz:=hg.size;rcases List.mem_append.1 hb with hb|hb
  ·obtain rfl:=List.mem_singleton.1 hb;rcases hat with e|e
   ·have:=h.rg b (List.mem_append_left _ (mem_vB.2 e));omega
   ·omega
  ·rcases List.mem_append.1 hb with hb|hb
   ·have:=hsub b hb;omega
   ·have:=hr b hb;omega
end
def altC(x:LAlt):List Value:=[.int .i64 x.tag,.int .i64 x.to]
def impC(x:LImp):List Value:=[.string x.name,.int .i64 x.arity]
def insC(x:LIns×Value):List Value:=[.int .i64 x.1.op,.int .i64 x.1.a,x.2]
abbrev InsL:=List (LIns×Value)
abbrev GlobL:=List (LGlob×Value×InsL)
def globC(x:LGlob×Value×InsL):List Value:=[.string x.1.name,.int .i64 x.1.arity,.bool x.1.exp,x.2.1]
abbrev noB{α:Type}:α->List Nat:=λ_=>[]
abbrev AltsO:=RowS altC noB (λ_ _=>True) 78 2
abbrev ImpsO:=RowS impC noB (λ_ _=>True) 63 2
theorem okAlt:OkFr (noB (α:=LAlt)) (λ_ _=>True):=λ_ _ _ _ _ _=>trivial
theorem okImp:OkFr (noB (α:=LImp)) (λ_ _=>True):=λ_ _ _ _ _ _=>trivial
def insSub(x:LIns×Value):List Nat:=rowB (noB (α:=LAlt)) x.2 x.1.alts
def insOk(w:World)(x:LIns×Value):Prop:=AltsO w 0 x.2 x.1.alts
theorem okIns:OkFr insSub insOk:=λ_ _ _ h hs hf=>h.fr okAlt hs hf
abbrev CodeO:=RowS insC insSub insOk 75 3
def globSub(x:LGlob×Value×InsL):List Nat:=rowB insSub x.2.1 x.2.2
def globOk(w:World)(x:LGlob×Value×InsL):Prop:=CodeO w 0 x.2.1 x.2.2∧x.2.2.map (·.1)=x.1.code
theorem okGlob:OkFr globSub globOk:=λ_ _ _ h hs hf=>⟨h.1.fr okIns hs hf,h.2⟩
abbrev GlobsO:=RowS globC globSub globOk 66 4
theorem row_at{w:World}{e:TypeId}{size n:Nat}{v:Value}{xs:List Value}(h:w.ownsRow 0 e size v n xs):(v=.slice none 0 0∧n=0)∨∃g cap,v=.slice (some ⟨g,0,none⟩) n cap∧g<w.heap.size∧∀j,j<n*size->w.cell? ⟨g,j,none⟩=xs[j]?:=by
 rcases h.2 with⟨h1,h2⟩|⟨g,cap,cur,rfl,hb,hgg,rest⟩
 ·exact Or.inl ⟨h1,h2⟩
 ·exact Or.inr ⟨g,cap,rfl,(row_lt h).1,λj hj=>h.cellAt j hj⟩
theorem AltsO.at{w:World}{lo:Nat}{v:Value}{l:List LAlt}(h:AltsO w lo v l)(hs:short l.length):AltsAt w v l:=by
 rcases row_at h.own with⟨rfl,hn⟩|⟨g,cap,rfl,-,hc⟩
 ·obtain rfl:l=[]:=List.eq_nil_of_length_eq_zero hn;exact⟨none,0,rfl,hs,λi hi=>absurd hi (by simp)⟩
 ·refine⟨_,cap,rfl,hs,λi hi=>⟨g,0,rfl,?_⟩⟩;obtain⟨f0,f1⟩:=flat2_at (λx:LAlt=>Value.int .i64 x.tag) (λx=>Value.int .i64 x.to) l i hi;rw[Nat.zero_add,hc _ (by omega),hc _ (by omega)];exact⟨f0,f1⟩
theorem ImpsO.at{w:World}{lo:Nat}{v:Value}{l:List LImp}(h:ImpsO w lo v l)(hs:short l.length)(hn:∀x∈l,x.name.size<=maxLen):ImpsAt w v l:=by
 rcases row_at h.own with⟨rfl,hn⟩|⟨g,cap,rfl,-,hc⟩
 ·obtain rfl:l=[]:=List.eq_nil_of_length_eq_zero hn;exact⟨none,0,rfl,hs,λi hi=>absurd hi (by simp)⟩
 ·refine⟨_,cap,rfl,hs,λi hi=>⟨g,0,rfl,?_⟩⟩;obtain⟨f0,f1⟩:=flat2_at (λx:LImp=>Value.string x.name) (λx=>Value.int .i64 x.arity) l i hi;rw[Nat.zero_add,hc _ (by omega),hc _ (by omega)];exact⟨f0,f1,hn _ (List.getElem_mem hi)⟩
theorem CodeO.at{w:World}{lo:Nat}{v:Value}{l:InsL}(h:CodeO w lo v l)(hs:short l.length)(ha:∀x∈l,short x.1.alts.length):CodeAt w v (l.map (·.1)):=by
 rcases row_at h.own with⟨rfl,hn⟩|⟨g,cap,rfl,-,hc⟩
 ·obtain rfl:l=[]:=List.eq_nil_of_length_eq_zero hn;exact⟨none,0,rfl,hs,λi hi=>absurd hi (by simp)⟩
 ·refine⟨some ⟨g,0,none⟩,cap,by simp,by simpa using hs,λi hi=>?_⟩;rw[List.length_map]at hi;refine⟨g,0,l[i].2,rfl,?_⟩;obtain⟨f0,f1,f2⟩:=flat3_at (λx:LIns×Value=>Value.int .i64 x.1.op) (λx=>Value.int .i64 x.1.a) (λx=>x.2) l i hi;rw[Nat.zero_add,hc _ (by omega),hc _ (by omega),hc _ (by omega),List.getElem_map];exact⟨f0,f1,f2,(h.it _ (List.getElem_mem hi)).at (ha _ (List.getElem_mem hi))⟩
theorem GlobsO.at{w:World}{lo:Nat}{v:Value}{l:GlobL}(h:GlobsO w lo v l)(hs:short l.length)(ha:∀x∈l,short x.2.2.length∧x.1.name.size<=maxLen∧∀y∈x.2.2,short y.1.alts.length):GlobsAt w v (l.map (·.1)):=by
 rcases row_at h.own with⟨rfl,hn⟩|⟨g,cap,rfl,-,hc⟩
 ·obtain rfl:l=[]:=List.eq_nil_of_length_eq_zero hn;exact⟨none,0,rfl,hs,λi hi=>absurd hi (by simp)⟩
 ·refine⟨some ⟨g,0,none⟩,cap,by simp,by simpa using hs,λi hi=>?_⟩;rw[List.length_map]at hi;refine⟨g,0,l[i].2.1,rfl,?_⟩;obtain⟨f0,f1,f2,f3⟩:=flat4_at (λx:LGlob×Value×InsL=>Value.string x.1.name) (λx=>Value.int .i64 x.1.arity) (λx=>Value.bool x.1.exp) (λx=>x.2.1) l i hi;obtain⟨h1,h2⟩:=h.it _ (List.getElem_mem hi);obtain⟨a1,a2,a3⟩:=ha _ (List.getElem_mem hi);rw[Nat.zero_add,hc _ (by omega),hc _ (by omega),hc _ (by omega),hc _ (by omega),List.getElem_map];refine⟨f0,f1,f2,f3,?_,a2⟩;rw[<-h2];exact h1.at a1 a3
def mks(mc:List Value)(k:Nat):List Value:=(List.replicate k mc).flatten
theorem mks_len(mc:List Value)(k:Nat):(mks mc k).length=k*mc.length:=by simp[mks]
theorem mks_add(mc:List Value)(a b:Nat):mks mc (a+b)=mks mc a++mks mc b:=by unfold mks;rw[<-List.replicate_append_replicate,List.flatten_append]
theorem mks_at(mc:List Value):∀(k j:Nat),j<k*mc.length->(mks mc k)[j]?=mc[j % mc.length]?
 |0,j,h=>by omega
 |k+1,j,h=>by
  have e:mks mc (k+1)=mc++mks mc k:=by simp[mks,List.replicate_succ]
  rw[e];by_cases hj:j<mc.length
  ·rw[List.getElem?_append_left hj,Nat.mod_eq_of_lt hj]
  ·rw[Nat.add_mul,Nat.one_mul]at h;rw[List.getElem?_append_right (by omega),mks_at mc k _ (by omega),show j % mc.length=(j-mc.length) % mc.length from Nat.mod_eq_sub_mod (by omega)]
abbrev MkRow(w:World)(e:TypeId)(mc:List Value)(v:Value)(k:Nat):Prop:=w.ownsRow 0 e mc.length v k (mks mc k)
theorem MkRow.cur{w:World}{e:TypeId}{mc:List Value}{g k cap:Nat}{cur:Array Value}(h:MkRow w e mc (.slice (some ⟨g,0,none⟩) k cap) k)(hg:w.heap[g]?=some (.cells cur e (0,0))):k<=cap∧cap<=maxLen∧cur.size=cap*mc.length∧∀j,j<k*mc.length->cur.toList[j]?=mc[j % mc.length]?:=by
 rcases h.2 with⟨h1,-⟩|⟨g',cap',cur',hv,-,hg',h1,h2,h3,h4⟩
 ·cases h1
 ·simp only[Value.slice.injEq,Option.some.injEq,Addr.mk.injEq,and_true,true_and]at hv;obtain⟨rfl,rfl⟩:=hv;rw[hg]at hg';simp only[Option.some.injEq,Obj.cells.injEq,and_true]at hg';subst hg';refine⟨h1,h2,h3,λj hj=>?_⟩;rw[<-mks_at mc k j hj,<-h4,List.getElem?_take,if_pos hj]
section
variable {P:Program} (w:World)
theorem run_append_marks(t ty:TypeId)(e:TypeId)(i:TypeInfo)(z:Value)(bytes:Nat)(mc:List Value)(ht:P.underlying t=some (.slice e))(hi:P.info? e=some i)(hz:i.zero=some z)
 (hsize:i.size=mc.length) (hby:i.bytes=bytes) (hzs:z.cells.size=mc.length) (hsz:0<mc.length) (v:Value) (n:Nat) (hown:MkRow w e mc v n)
 (ad:Addr) (m c:Nat) (hnews:∀j u,(mks mc m)[j]?=some u->w.cell? (ad.add j)=some u) (h1:∀u∈mc,u.oneCell'=true) (h63:n+m<=maxLen) (hbytes:(n+m)*bytes<=140737488355328):
 ∃v' w',(Builtin.append_ #[t,t] ty #[v,.slice (some ad) m c]).run P w=.ok v' w'∧MkRow w' e mc v' (n+m)∧(∀u k,MkRow w e mc u k->MkRow w' e mc u k)∧w.grownBy w' v.ownBlock∧(v'.ownBlock=v.ownBlock∨v'.ownBlock=some w.heap.size):=by
 have h1':∀u∈mks mc m,u.oneCell'=true:=λu hu=>by
  unfold mks at hu;obtain⟨l,hl,hul⟩:=List.mem_flatten.1 hu;rw[List.eq_of_mem_replicate hl]at hul;exact h1 u hul
 have hl:(mks mc m).length=m*mc.length:=mks_len mc m;obtain⟨v',w',hr,h2,h3,-,h5⟩:=run_append_own_at (P:=P) w 0 t ty e i z mc.length bytes ht hi hz hsize hby hzs hsz v n (mks mc n) hown ad m c (mks mc m) hl hnews h1' h63 hbytes (Nat.zero_le _);refine⟨v',w',hr,by show w'.ownsRow _ _ _ _ _ _;rw[mks_add];exact h2,λu k hu=>?_,h3,h5⟩;rcases hown.2 with⟨rfl,rfl⟩|⟨g,cap,cur,rfl,-,hg,hnc,hcm,hcs,htake⟩
 ·refine hu.kept h3 ?_;cases hx:u.ownBlock with
  |none=>exact Or.inl rfl
  |some b=>exact Or.inr (by simp[Value.ownBlock])
 ·by_cases hsame:u.ownBlock=some g
  ·by_cases hroom:n+m<=cap
   ·have hfit:n*i.size+(mks mc m).length<=cur.size:=by rw[hl,hcs,hsize,<-Nat.add_mul];exact Nat.mul_le_mul_right _ hroom
    have hr2:=run_append_room (P:=P) w t ty e i ht hi g n cap cur hg ad m c (mks mc m) (by rw[hl,hsize]) hnews h1' hroom hfit;rw[hr2]at hr;simp only[Result.ok.injEq]at hr;obtain⟨-,rfl⟩:=hr;obtain⟨hn1,hn2,hn3,hn4⟩:=MkRow.cur hown hg;rcases hu.2 with⟨rfl,-⟩|⟨g',cu,cur',rfl,-,hg',hk1,hk2,hk3,hk4⟩
    ·simp[Value.ownBlock]at hsame
    ·obtain rfl:g'=g:=by simpa[Value.ownBlock]using hsame
     rw[hg]at hg';simp only[Option.some.injEq,Obj.cells.injEq,and_true]at hg';subst hg';obtain⟨-,-,-,hu4⟩:=MkRow.cur hu hg;refine⟨hu.1,.inr ⟨g',cu,_,rfl,Nat.zero_le _,setRow_heap w g' cur _ e _ hg,hk1,hk2,?_,?_⟩⟩
     ·simp only[List.size_toArray,List.length_append,List.length_take,List.length_drop,Array.length_toList];rw[hsize]at hfit ⊢;omega
     ·rw[List.toList_toArray,hsize];rw[hl,<-hsize,hsize]at hfit;refine List.ext_getElem? λj=>?_;by_cases hj:j<k*mc.length
      ·rw[List.getElem?_take,if_pos hj,mks_at mc k j hj];have hcl:cur.toList.length=cur.size:=Array.length_toList;have htl:(cur.toList.take (n*mc.length)).length=n*mc.length:=by rw[List.length_take];omega
       have hnl:(cur.toList.take (n*mc.length)++mks mc m).length=n*mc.length+m*mc.length:=by rw[List.length_append,htl,hl]
       by_cases ha:j<n*mc.length
       ·rw[List.getElem?_append_left (by omega),List.getElem?_append_left (by omega),List.getElem?_take,if_pos ha];exact hn4 j ha
       ·by_cases hb:j<n*mc.length+m*mc.length
        ·rw[List.getElem?_append_left (by omega),List.getElem?_append_right (by omega),htl,mks_at mc m _ (by omega)];rw[show j % mc.length=(j-n*mc.length) % mc.length by
          conv=>lhs;rw[show j=(j-n*mc.length)+n*mc.length by omega]
          exact Nat.add_mul_mod_self_right _ _ _]
        ·rw[List.getElem?_append_right (by omega),hnl,List.getElem?_drop,hl,show n*mc.length+m*mc.length+(j-(n*mc.length+m*mc.length))=j by omega];exact hu4 j hj
      ·rw[List.getElem?_eq_none (by rw[List.length_take];omega),List.getElem?_eq_none (by rw[mks_len];omega)]
   ·have holds:∀j u,(mks mc n)[j]?=some u->w.cell? ((⟨g,0,none⟩:Addr).add j)=some u:=hown.cells (g:=g) rfl;have hr2:=run_append_grow (P:=P) w t ty e i z ht hi hz ⟨g,0,none⟩ n cap (mks mc n) (by rw[mks_len,hsize]) holds ad m c (mks mc m) (by rw[hl,hsize]) hnews (by omega) (by simp only[maxLen]at h63;omega) (growslice_fits (by omega) (by rw[hby];exact hbytes));rw[hr2]at hr;simp only[Result.ok.injEq]at hr;obtain⟨-,rfl⟩:=hr;refine hu.kept (row:=none) ⟨rfl,rfl,rfl,by simp,λk hk _=>heap_alloc_old w.drew _ hk⟩ (Or.inr ?_);rw[hsame];simp
  ·exact hu.kept h3 (Or.inr (by simpa[Value.ownBlock]using hsame))
end
end Go.Proofs.YtefpamchdheldaaGreatDoor
