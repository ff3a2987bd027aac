import Derived.Test.YtcpcplaeaimmpaaGreatDoorPq3J
set_option maxRecDepth 100000
set_option maxHeartbeats 8000000
namespace Go.Proofs.YtcpcplaeaimmpaaGreatDoor
open Go.RowKit Go.Sort
theorem RowS.push2{α:Type}{cells:α->List Value}{sub:α->List Nat}{ok:World->α->Prop}{e:TypeId}{size:Nat}(hok:OkFr sub ok){w w1 w2:World}{lo:Nat}{v:Value}{xs:List α}(h:RowS cells sub ok e size w lo v xs)(hlo:lo<=w.heap.size)(hf:Fr (rowB sub v xs) w w1)(hs:w.heap.size<=w1.heap.size)
 {x:α} (hx:ok w1 x) (hr:∀b∈sub x,lo<=b∧b<w1.heap.size∧b∉rowB sub v xs) (hnx:(sub x).Nodup) (hg:w1.grownBy w2 v.ownBlock) {g n c:Nat} (hn:n=xs.length+1) (hat:v.ownBlock=some g∨g=w1.heap.size) (hlt:g<w2.heap.size)
 (hown:w2.ownsRow 0 e size (.slice (some ⟨g,0,none⟩) n c) n (xs.flatMap cells++cells x)):RowS cells sub ok e size w2 lo (.slice (some ⟨g,0,none⟩) n c) (xs++[x]):=by
 subst hn;have hsub:∀b∈xs.flatMap sub,lo<=b∧b<w.heap.size∧v.ownBlock≠some b:=by
  intro b hb;have h1:=h.rg b (List.mem_append_right _ hb);refine⟨h1.1,h1.2,λe=>?_⟩;exact(List.nodup_append.1 h.nd).2.2 b (mem_vB.2 e) b hb rfl
 have hnv:∀b∈sub x,v.ownBlock≠some b:=λb hb e=>(hr b hb).2.2 (List.mem_append_left _ (mem_vB.2 e));have hgx:g∉sub x:=λhb=>by
  rcases hat with e|e
  ·exact hnv g hb e
  ·have:=hr g hb;omega
 have hgs:g∉xs.flatMap sub:=λhb=>by
  rcases hat with e|e
  ·exact(hsub g hb).2.2 e
  ·have:=hsub g hb;omega
 refine⟨?_,λy hy=>?_,?_,λb hb=>?_⟩
 ·rw[List.length_append,List.flatMap_append];simpa using hown
 ·rcases List.mem_append.1 hy with hy|hy
  ·refine hok w w2 y (h.it y hy) (Nat.le_trans hs hg.size) λb hb=>?_;have hm:=List.mem_flatMap.2 ⟨y,hy,hb⟩;have h1:=hsub b hm;rw[hg.block b (by omega) (λe=>h1.2.2 e.symm)];exact hf b (List.mem_append_right _ hm)
  ·obtain rfl:=List.mem_singleton.1 hy;refine hok w1 w2 y hx hg.size λb hb=>hg.block b (hr b hb).2.1 (λe=>hnv b hb e.symm)
 ·unfold rowB;rw[vB_slice,List.flatMap_append,List.flatMap_cons,List.flatMap_nil,List.append_nil,List.singleton_append,List.nodup_cons,List.mem_append,List.nodup_append];refine⟨λhb=>hb.elim hgs hgx,(List.nodup_append.1 h.nd).2.1,hnx,λa ha b hb e=>?_⟩;subst e;exact(hr a hb).2.2 (List.mem_append_right _ ha)
 ·unfold rowB at hb;rw[vB_slice,List.flatMap_append,List.flatMap_cons,List.flatMap_nil,List.append_nil]at hb;have hsz:=hg.size;rcases List.mem_append.1 hb with hb|hb
  ·obtain rfl:=List.mem_singleton.1 hb;rcases hat with e|e
   ·have:=h.rg b (List.mem_append_left _ (mem_vB.2 e));omega
   ·omega
  ·rcases List.mem_append.1 hb with hb|hb
   ·have:=hsub b hb;omega
   ·have:=hr b hb;omega
def umB(U:Nat)(kv tv:Value)(ts:List TT):List Nat:=U::(vB kv++rowB ttS tv ts)
structure UMem (lo:Nat) (w:World) (U:Nat) (kn:List ByteArray) (ts:List TT) (kv tv gv:Value):Prop where
 u:V3 w U kv tv gv
 kn:StrsO w lo kv kn
 td:TodoO w lo tv ts
 nd:(umB U kv tv ts).Nodup
 ul:lo<=U
section
variable {lo:Nat} {w w' wr Z w4:World} {U:Nat} {kn:List ByteArray} {ts:List TT} {kv tv gv:Value} {g c:Nat}
theorem UMem.rg(h:UMem lo w U kn ts kv tv gv):∀b∈umB U kv tv ts,lo<=b∧b<w.heap.size:=by
 intro b hb;rcases List.mem_cons.1 hb with rfl|hb
 ·exact⟨h.ul,h.u.lt⟩
 rcases List.mem_append.1 hb with hb|hb
 ·exact h.kn.rg b (List.mem_append_left _ hb)
 ·exact h.td.rg b hb
theorem UMem.fr(h:UMem lo w U kn ts kv tv gv)(hz:w.heap.size<=w'.heap.size)(hf:Fr (umB U kv tv ts) w w'):UMem lo w' U kn ts kv tv gv:=
 ⟨h.u.of_block (hf U (List.mem_cons_self ..)),h.kn.fr okStr hz (hf.sub λ_ hb=>List.mem_cons_of_mem _ (List.mem_append_left _ (rowB_plain hb))),h.td.fr okTd hz (hf.sub λ_ hb=>List.mem_cons_of_mem _ (List.mem_append_right _ hb)),h.nd,h.ul⟩
theorem UMem.keep(h:UMem lo w U kn ts kv tv gv)(hb:Below w.heap.size w w'):UMem lo w' U kn ts kv tv gv:=h.fr hb.size λb hm=>hb.block b (h.rg b hm).2
theorem UMem.pushK(h:UMem lo wr U kn ts kv tv gv){x:ByteArray}(hb:Below wr.heap.size wr Z)(hg:Z.grownBy w4 kv.ownBlock)(hat:kv.ownBlock=some g∨g=Z.heap.size)(hlt:g<w4.heap.size)
 (hown:w4.ownsRow 0 9 1 (.slice (some ⟨g,0,none⟩) (kn.length+1) c) (kn.length+1) (kn.flatMap strC++strC x)):
 UMem lo (w4.setCell ⟨U,0,none⟩ (.slice (some ⟨g,0,none⟩) (kn.length+1) c)) U (kn++[x]) ts (.slice (some ⟨g,0,none⟩) (kn.length+1) c) tv gv:=by
 have hzb:=hb.size;have hz4:=hg.size;have hnd:=h.nd;have hrg:=h.rg;have hloZ:lo<=wr.heap.size:=Nat.le_trans h.ul (Nat.le_of_lt h.u.lt);have hrow:StrsO w4 lo (.slice (some ⟨g,0,none⟩) (kn.length+1) c) (kn++[x]):=
  h.kn.push okStr hloZ (w1:=Z) (λb hb'=>hb.block b (h.kn.rg b hb').2) hzb trivial (λb hb'=>by cases hb') List.nodup_nil hg rfl hat hlt hown
 have hL:umB U kv tv ts=[U]++(vB kv++rowB ttS tv ts):=rfl;have hL':umB U (.slice (some ⟨g,0,none⟩) (kn.length+1) c) tv ts=[U]++([g]++rowB ttS tv ts):=by unfold umB;rw[vB_slice];rfl
 rw[hL]at hnd hrg;have hnew:vB kv=[g]∨(g∉[U]∧g∉rowB ttS tv ts):=by
  rcases hat with h1|h1
  ·exact Or.inl (vB_own h1)
  ·right
   constructor
   ·intro hm;have:=(hrg g (List.mem_append_left _ hm)).2;omega
   ·intro hm;have:=(hrg g (List.mem_append_right _ (List.mem_append_right _ hm))).2;omega
 have hnd':=nodup_swap hnd hnew;obtain⟨nA,nB,nC⟩:=List.nodup_append.1 hnd;obtain⟨nD,nE,nF⟩:=List.nodup_append.1 nB;have hoff:∀b,(b∈[U]∨b∈rowB ttS tv ts)->w4.heap[b]?=wr.heap[b]?:=by
  intro b hm;have hbl:b<wr.heap.size:=by
   rcases hm with hm|hm
   ·exact(hrg b (List.mem_append_left _ hm)).2
   ·exact(hrg b (List.mem_append_right _ (List.mem_append_right _ hm))).2
  rw[hg.block b (by omega) (λe=>?_)]
  ·exact hb.block b hbl
  ·have hcv:b∈vB kv:=mem_vB.2 e.symm;rcases hm with hm|hm
   ·exact nC b hm b (List.mem_append_left _ hcv) rfl
   ·exact nF b hcv b hm rfl
 have hsetn:∀b,b≠U->(w4.setCell ⟨U,0,none⟩ (.slice (some ⟨g,0,none⟩) (kn.length+1) c)).heap[b]?=w4.heap[b]?:=λb hb'=>Below.heap_setCell _ _ _ _ hb';have hnU:∀b,b∈([g]++rowB ttS tv ts)->b≠U:=λb hm e=>(List.nodup_append.1 hnd').2.2 U (by simp) b hm e.symm;have hsz:wr.heap.size<=(w4.setCell ⟨U,0,none⟩ (.slice (some ⟨g,0,none⟩) (kn.length+1) c)).heap.size:=by simp;omega
 refine⟨(h.u.of_block (hoff U (Or.inl (by simp)))).set0 _,hrow.fr okStr (by simp) λb hb'=>hsetn b (hnU b ?_),h.td.fr okTd hsz λb hb'=>?_,by rw[hL'];exact hnd',h.ul⟩
 ·have:=rowB_plain hb';rw[vB_slice]at this;exact List.mem_append_left _ this
 ·rw[hsetn b (hnU b (List.mem_append_right _ hb'))];exact hoff b (Or.inr hb')
theorem UMem.pushT(h:UMem lo wr U kn ts kv tv gv){x:TT}(hx:okTT Z x)(hxb:∀b∈ttS x,lo<=b∧b<Z.heap.size∧b∉umB U kv tv ts)(hb:Below wr.heap.size wr Z)(hg:Z.grownBy w4 tv.ownBlock)(hat:tv.ownBlock=some g∨g=Z.heap.size)(hlt:g<w4.heap.size)
 (hown:w4.ownsRow 0 228 3 (.slice (some ⟨g,0,none⟩) (ts.length+1) c) (ts.length+1) (ts.flatMap ttC++ttC x)):
 UMem lo (w4.setCell ⟨U,1,none⟩ (.slice (some ⟨g,0,none⟩) (ts.length+1) c)) U kn (ts++[x]) kv (.slice (some ⟨g,0,none⟩) (ts.length+1) c) gv:=by
 have hzb:=hb.size;have hz4:=hg.size;have hnd:=h.nd;have hrg:=h.rg;have hloZ:lo<=wr.heap.size:=Nat.le_trans h.ul (Nat.le_of_lt h.u.lt);have hrow:TodoO w4 lo (.slice (some ⟨g,0,none⟩) (ts.length+1) c) (ts++[x]):=
  RowS.push2 okTd h.td hloZ (w1:=Z) (λb hb'=>hb.block b (h.td.rg b hb').2) hzb hx (λb hb'=>⟨(hxb b hb').1,(hxb b hb').2.1,λhm=>(hxb b hb').2.2 (List.mem_cons_of_mem _ (List.mem_append_right _ hm))⟩) (vB_nodup _) hg rfl hat hlt hown
 have hL:umB U kv tv ts=(U::vB kv)++(vB tv++ts.flatMap ttS):=rfl;have hsub:∀b∈rowB ttS (.slice (some ⟨g,0,none⟩) (ts.length+1) c) (ts++[x]),b=g∨b∈ts.flatMap ttS∨b∈ttS x:=by
  intro b hb';rcases List.mem_append.1 hb' with h1|h1
  ·rw[vB_slice]at h1;exact Or.inl (by simpa using h1)
  ·rw[List.flatMap_append]at h1;rcases List.mem_append.1 h1 with h2|h2
   ·exact Or.inr (Or.inl h2)
   ·exact Or.inr (Or.inr (by simpa using h2))
 rw[hL]at hnd hrg;obtain⟨nA,nB,nC⟩:=List.nodup_append.1 hnd;obtain⟨nD,nE,nF⟩:=List.nodup_append.1 nB;have hold:∀b,b∈(U::vB kv)->b∉rowB ttS (.slice (some ⟨g,0,none⟩) (ts.length+1) c) (ts++[x]):=by
  intro b hm hb';have hbl:=(hrg b (List.mem_append_left _ hm)).2;rcases hsub b hb' with rfl|h1|h1
  ·rcases hat with h2|h2
   ·exact nC b hm b (List.mem_append_left _ (mem_vB.2 h2)) rfl
   ·omega
  ·exact nC b hm b (List.mem_append_right _ h1) rfl
  ·refine(hxb b h1).2.2 ?_;rcases List.mem_cons.1 hm with rfl|hm
   ·exact List.mem_cons_self ..
   ·exact List.mem_cons_of_mem _ (List.mem_append_left _ hm)
 have hoff:∀b,b∈(U::vB kv)->w4.heap[b]?=wr.heap[b]?:=by
  intro b hm;have hbl:=(hrg b (List.mem_append_left _ hm)).2;rw[hg.block b (by omega) (λe=>nC b hm b (List.mem_append_left _ (mem_vB.2 e.symm)) rfl)];exact hb.block b hbl
 have hsetn:∀b,b≠U->(w4.setCell ⟨U,1,none⟩ (.slice (some ⟨g,0,none⟩) (ts.length+1) c)).heap[b]?=w4.heap[b]?:=λb hb'=>Below.heap_setCell _ _ _ _ hb';have hsz:wr.heap.size<=(w4.setCell ⟨U,1,none⟩ (.slice (some ⟨g,0,none⟩) (ts.length+1) c)).heap.size:=by simp;omega
 obtain⟨nU,nkv⟩:=List.nodup_cons.1 nA;refine⟨(h.u.of_block (hoff U (by simp))).set1 _,h.kn.fr okStr hsz λb hb'=>?_,hrow.fr okTd (by simp) λb hb'=>hsetn b (λe=>hold U (by simp) (e▸hb')),?_,h.ul⟩
 ·have hk:=rowB_plain hb';rw[hsetn b (λe=>nU (e▸hk))];exact hoff b (List.mem_cons_of_mem _ hk)
 ·show(U::(vB kv++rowB ttS _ (ts++[x]))).Nodup;rw[<-List.cons_append];exact List.nodup_append.2 ⟨nA,hrow.nd,λa ha b hb' e=>hold a ha (e▸hb')⟩
end
theorem Tryz.strI7:(Tryz.prog.info? 9).map (λi=>(i.zero,i.size,i.bytes))=some (some (.string ⟨#[]⟩),1,16):=by kernel_rfl
theorem Tryz.taskI:(Tryz.prog.info? 228).map (λi=>(i.zero,i.size,i.bytes))=some (some (.agg #[.string ⟨#[]⟩,.slice none 0 0,.nilIface]),3,56):=by kernel_rfl
theorem UMem.uG{lo:Nat}{wr Z w4:World}{U:Nat}{kn:List ByteArray}{ts:List TT}{kv tv gv:Value}(h:UMem lo wr U kn ts kv tv gv){v:Value}(hv:v=kv∨v=tv)(hb:Below wr.heap.size wr Z)(hg:Z.grownBy w4 v.ownBlock):V3 w4 U kv tv gv:=by
 have hz:=hb.size;have hu:=h.u.lt;refine h.u.of_block ?_;rw[hg.block U (by omega) (λe=>(List.nodup_cons.1 h.nd).1 ?_)]
 ·exact hb.block U hu
 ·rcases hv with rfl|rfl
  ·exact List.mem_append_left _ (mem_vB.2 e.symm)
  ·exact List.mem_append_right _ (List.mem_append_left _ (mem_vB.2 e.symm))
def CAddRes(lo:Nat)(w:World)(U:Nat)(kn:List ByteArray)(ts:List TT)(kv tv gv:Value)(x:TT)(e:Ending)(w':World):Prop:=e=.returned (.tuple #[])∧AF (U::(vB kv++vB tv)) w w'∧∃kv' tv',UMem lo w' U (kn++[x.1]) (ts++[x]) kv' tv' gv∧(∀b∈vB kv',b∈vB kv∨w.heap.size<=b)∧∀b∈vB tv',b∈vB tv∨w.heap.size<=b
theorem cadd_any{lo:Nat}{w:World}{U:Nat}{kn:List ByteArray}{ts:List TT}{kv tv gv:Value}(t:ByteArray)(pp:Option Addr)(pn pc:Nat)(pl:List ByteArray)(bt:TypeId)(bx:Value)(be:Ex)(bb:List Nat)(h:UMem lo w U kn ts kv tv gv)(hp:StrsO w 0 (.slice pp pn pc) pl)(hpn:∀b∈vB (.slice pp pn pc),b∉umB U kv tv ts)(hlp:∀b∈vB (.slice pp pn pc),lo<=b)(hk:kn.length<=100000)(ht:ts.length<=100000):
 Calls Tryz.prog 92 #[.pointer (some ⟨U,0,none⟩),.agg #[.string t,.slice pp pn pc,.iface bt bx]] w λe w'=>CAddRes lo w U kn ts kv tv gv (t,(.slice pp pn pc,pl),(.iface bt bx,be,bb)) e w':=by
 obtain⟨kp,kc,rfl⟩:=h.kn.slice;obtain⟨tp,tc,rfl⟩:=h.td.slice;obtain⟨si,hsi,hsj⟩:=Option.map_eq_some_iff.1 Tryz.strI7;simp only[Prod.mk.injEq]at hsj;obtain⟨hs0,hs1,hs2⟩:=hsj;obtain⟨ti,hti,htj⟩:=Option.map_eq_some_iff.1 Tryz.taskI;simp only[Prod.mk.injEq]at htj;obtain⟨ht0,ht1,ht2⟩:=htj;obtain⟨w0,hw0⟩:∃w0,w0=w.alloc (.cells #[.string t,.slice pp pn pc,.iface bt bx] 228):=⟨_,rfl⟩;have hb0:Below w.heap.size w w0:=by rw[hw0];exact(Below.refl _ _).alloc (Nat.le_refl _) _
 have HM:=hid h;have HM0:=hid (h.keep hb0);have HB0:=hid hb0;have hUw:=h.u.lt;obtain⟨k0,k1,k2,kf⟩:=id HM0.out.u;have kf0:=kf 0;have hz0:w0.heap.size=w.heap.size+1:=by rw[hw0];simp
 have HI0:Hid (V3 w0 w.heap.size (.string t) (.slice pp pn pc) (.iface bt bx)):=by
  subst hw0;exact⟨by simp,by simp,by simp,λj=>by simp⟩
 obtain⟨j0,j1,j2,-⟩:=id HI0.out;have k0a:=λo=>alloc_old w0 o _ _ _ k0;have j0a:=λo=>alloc_old w0 o _ _ _ j0;have j1a:=λo=>alloc_old w0 o _ _ _ j1;have j2a:=λo=>alloc_old w0 o _ _ _ j2;have HZ1:Hid (∀o,Below w0.heap.size w0 (w0.alloc o)):=λo=>(Below.refl _ _).alloc (Nat.le_refl _) _;have HPP:Hid (StrsO w 0 (.slice pp pn pc) pl∧(∀b∈vB (.slice pp pn pc),b∉umB U (.slice kp kn.length kc) (.slice tp ts.length tc) ts)∧∀b∈vB (.slice pp pn pc),lo<=b):=⟨hp,hpn,hlp⟩;have HPX:Hid (∀(Z w4:World) (g c:Nat),Below w0.heap.size w0 Z->Z.grownBy w4 (Value.slice kp kn.length kc).ownBlock->((Value.slice kp kn.length kc).ownBlock=some g∨g=Z.heap.size)->g<w4.heap.size->w4.ownsRow 0 9 1 (.slice (some ⟨g,0,none⟩) (kn.length+1) c) (kn.length+1) (kn.flatMap strC++[.string t])->UMem lo (w4.setCell ⟨U,0,none⟩ (.slice (some ⟨g,0,none⟩) (kn.length+1) c)) U (kn++[t]) ts (.slice (some ⟨g,0,none⟩) (kn.length+1) c) (.slice tp ts.length tc) gv∧V3 (w4.setCell ⟨U,0,none⟩ (.slice (some ⟨g,0,none⟩) (kn.length+1) c)) w.heap.size (.string t) (.slice pp pn pc) (.iface bt bx)∧AF (U::vB (.slice kp kn.length kc)) w (w4.setCell ⟨U,0,none⟩ (.slice (some ⟨g,0,none⟩) (kn.length+1) c))∧∀b∈vB (.slice (some ⟨g,0,none⟩) (kn.length+1) c),b∈vB (.slice kp kn.length kc)∨w.heap.size<=b):=by
  intro Z w4 g c hbZ hg hat hlt hown;have hzZ:=hbZ.size;have hbw:Below w.heap.size w Z:=HB0.out.trans (hbZ.mono (by omega));refine⟨HM0.out.pushK (x:=t) hbZ hg hat hlt hown,?_,AF.grown hbw hg,λb hb=>?_⟩
  ·refine HI0.out.of_block ?_;rw[Below.heap_setCell _ _ _ _ (show w.heap.size≠U by omega),hg.block _ (by omega) (λe=>by have:=(HM.out.kn.rg _ (List.mem_append_left _ (mem_vB.2 e.symm))).2;omega)];exact hbZ.block _ (by omega)
  ·rw[vB_slice]at hb;obtain rfl:=List.mem_singleton.1 hb;rcases hat with h1|h1
   ·exact Or.inl (mem_vB.2 h1)
   ·right;omega
 clear h kf hb0 hp hpn hlp;go_enter Tryz.func92,Tryz.ntmps92;go_upto_region 1 with(fail)
 rw[<-hw0];have HZ0:=hid hz0;clear hw0 hz0;go_cut [] (λwx=>∃kv',Hid (UMem lo wx U (kn++[t]) ts kv' (.slice tp ts.length tc) gv∧V3 wx w.heap.size (.string t) (.slice pp pn pc) (.iface bt bx)∧AF (U::vB (.slice kp kn.length kc)) w wx∧∀b∈vB kv',b∈vB (.slice kp kn.length kc)∨w.heap.size<=b))
 case first=>
  go_region_law
   (first
   |(refine step_append_lies _ rfl (.tmp 8) (.tmp 11) 66 rfl 0 9 si _ 1 16 Tryz.underlying66 hsi hs0 hs1 hs2 rfl (by omega) (.slice kp kn.length kc) kn.length (kn.flatMap strC) (by simp[Act.eval];done) (HM0.out.kn.own.alloc _) ⟨w0.heap.size,0,none⟩ 1 1 [.string t] (by simp[Act.eval];done) rfl (by have h:=World.news_of_block (heap_alloc_new w0 (Obj.cells #[.string t] 9));simpa using h) (by intro u hu;simp at hu;subst hu;rfl) (by omega) (by unfold maxLen;omega) (by omega) (Nat.zero_le _) _ rfl ?_;intro g1 c1 w4 hown hgrow hat hlt1;have HMX:=hid (HPX.out _ _ _ _ (by first|exact HZ1.out _|exact below_drew3 (HZ1.out _)) hgrow hat hlt1 hown);obtain⟨e0,e1,e2,ef⟩:=HM0.out.uG (Or.inl rfl) (by first|exact HZ1.out _|exact below_drew3 (HZ1.out _)) hgrow;have ef0:=ef 0;clear hown hgrow hat hlt1 ef e1 e2))
  all_goals
   go_wp2_with fail
   go_meet
   exact⟨_,HMX⟩
 case rest=>
  rename World=>wx
  obtain⟨kv',HK⟩:=hcut;clear k0 k1 k2 kf0 j0 j1 j2 k0a j0a j1a j2a HPX HZ1;obtain⟨k0,k1,k2,kf⟩:=id HK.out.1.u;have kf1:=kf 1;obtain⟨j0,j1,j2,-⟩:=id HK.out.2.1;have k1a:=λo=>alloc_old wx o _ _ _ k1;have j0a:=λo=>alloc_old wx o _ _ _ j0;have j1a:=λo=>alloc_old wx o _ _ _ j1;have j2a:=λo=>alloc_old wx o _ _ _ j2;have HZ1:Hid (∀o,Below wx.heap.size wx (wx.alloc o)):=λo=>(Below.refl _ _).alloc (Nat.le_refl _) _;have HPX:Hid (∀(Z w4:World) (g c:Nat),Below wx.heap.size wx Z->Z.grownBy w4 (Value.slice tp ts.length tc).ownBlock->((Value.slice tp ts.length tc).ownBlock=some g∨g=Z.heap.size)->g<w4.heap.size->w4.ownsRow 0 228 3 (.slice (some ⟨g,0,none⟩) (ts.length+1) c) (ts.length+1) (ts.flatMap ttC++[.string t,.slice pp pn pc,.iface bt bx])->CAddRes lo w U kn ts (.slice kp kn.length kc) (.slice tp ts.length tc) gv (t,(.slice pp pn pc,pl),(.iface bt bx,be,bb)) (.returned (.tuple #[])) (w4.setCell ⟨U,1,none⟩ (.slice (some ⟨g,0,none⟩) (ts.length+1) c))):=by
   intro Z w4 g c hbZ hg hat hlt hown;have hzZ:=hbZ.size;obtain⟨q1,q2,q3⟩:=HPP.out;obtain⟨r1,r2,r3,r4⟩:=HK.out;have hzx:=r3.size;have hold:∀b∈vB (.slice pp pn pc),b<w.heap.size∧wx.heap[b]?=w.heap[b]?:=λb hb=>by
    have hl:=(q1.rg b (List.mem_append_left _ hb)).2;refine⟨hl,r3.block b hl λhm=>q2 b hb ?_⟩;rcases List.mem_cons.1 hm with rfl|hm
    ·exact List.mem_cons_self ..
    ·exact List.mem_cons_of_mem _ (List.mem_append_left _ hm)
   have hpx:StrsO Z 0 (.slice pp pn pc) pl:=q1.fr okStr (by omega) λb hb=>by
    have h1:=hold b (rowB_plain hb);rw[hbZ.block b (by omega)];exact h1.2
   refine⟨rfl,r3.grow2 hbZ hg,_,_,r1.pushT (x:=(t,(.slice pp pn pc,pl),(.iface bt bx,be,bb))) hpx (λb hb=>⟨q3 b hb,by have:=hold b hb;omega,λhm=>?_⟩) hbZ hg hat hlt hown,r4,λb hb=>?_⟩
   ·rcases List.mem_cons.1 hm with rfl|hm
    ·exact q2 _ hb (List.mem_cons_self ..)
    rcases List.mem_append.1 hm with hm|hm
    ·rcases r4 b hm with h1|h1
     ·exact q2 _ hb (List.mem_cons_of_mem _ (List.mem_append_left _ h1))
     ·have:=hold b hb;omega
    ·exact q2 _ hb (List.mem_cons_of_mem _ (List.mem_append_right _ hm))
   ·rw[vB_slice]at hb;obtain rfl:=List.mem_singleton.1 hb;rcases hat with h1|h1
    ·exact Or.inl (mem_vB.2 h1)
    ·right;omega
  clear kf k0 k2;go_wp2_with fail
  go_region_law
   (first
   |(refine step_append_lies _ rfl (.tmp 19) (.tmp 21) 221 rfl 0 228 ti _ 3 56 Tryz.underlying221 hti ht0 ht1 ht2 rfl (by omega) (.slice tp ts.length tc) ts.length (ts.flatMap ttC) (by simp[Act.eval];done) (HK.out.1.td.own.alloc _) ⟨wx.heap.size,0,none⟩ 1 1 [.string t,.slice pp pn pc,.iface bt bx] (by simp[Act.eval];done) rfl (by have h:=World.news_of_block (heap_alloc_new wx (Obj.cells #[.string t,.slice pp pn pc,.iface bt bx] 228));simpa using h) (by intro u hu;simp at hu;rcases hu with rfl|rfl|rfl<;>rfl) (by omega) (by unfold maxLen;omega) (by omega) (Nat.zero_le _) _ rfl ?_;intro g1 c1 w4 hown hgrow hat hlt1;have HMX:=hid (HPX.out _ _ _ _ (by first|exact HZ1.out _|exact below_drew3 (HZ1.out _)) hgrow hat hlt1 hown);obtain⟨e0,e1,e2,ef⟩:=HK.out.1.uG (Or.inr rfl) (by first|exact HZ1.out _|exact below_drew3 (HZ1.out _)) hgrow;have ef1:=ef 1;clear hown hgrow hat hlt1 ef e0 e2))
  all_goals
   go_wp2_with fail
   refine bE ?_;exact HMX.out
end Go.Proofs.YtcpcplaeaimmpaaGreatDoor
namespace Go.Proofs.YtcpcplaeaimmpaaGreatDoor
open Go.RowKit
theorem cmp_run(a b:ByteArray)(w:World):(callFunc 187 #[.string a,.string b]).run Tryz.prog w=.ok (.value (.int .i64 (cmpB a b))) w:=by
 have h:=@run_callFunc_extern Tryz.prog 187 _ Extern.BytealgCompare.compare Tryz.func187 (by kernel_rfl) (by kernel_rfl) (by kernel_rfl) (by kernel_rfl);rw[h,Lib.run_compareString];rfl
theorem Compare_any(a b:ByteArray)(w:World):Calls Tryz.prog 118 #[.string a,.string b] w λe w'=>e=.returned (.int .i64 (cmpB a b))∧w'=w:=by
 have h:=cmp_run;go_enter Tryz.func118,Tryz.ntmps118;go_wp2;go_ret;exact⟨rfl,rfl⟩
theorem closure_any(a b:ByteArray)(n:Int)(w:World):Calls Tryz.prog 117 #[.agg #[.string a,.int .i64 n],.string b] w λe w'=>e=.returned (.int .i64 (cmpB a b))∧Below w.heap.size w w':=by
 go_enter Tryz.func117,Tryz.ntmps117;go_wp2_with (first|(go_at_call 118;refine(Compare_any _ _ _).mono ?_;rintro e w' ⟨rfl,rfl⟩))
 go_ret;exact⟨rfl,(Below.refl _ _).alloc (Nat.le_refl _) _⟩
theorem int_eq{k:IntKind}{a b:Int}(h:a=b):Value.int k a=.int k b:=by rw[h]
theorem search_any(l:List LImp)(v:Value)(n:ByteArray)(w:World)(hI:ImpsAt w v l)(hr:Rising l):
 Calls Tryz.prog 116 #[v,.string n,.func (.func 117) #[] #[]] w λe w'=>(∃k:Int,e=.returned (.tuple #[.int .i64 k,.bool (hasN l n)]))∧Below w.heap.size w w':=by
 obtain⟨p,cap,rfl,hs1,hcell⟩:=hI.open;have HC:Hid (∀w',Below w.heap.size w w'->ImpsIn w' p l):=hcell;have HR:Hid (Rising l):=hr;clear hcell hI hr;go_enter Tryz.func116,Tryz.ntmps116;go_wp2;go_loopw [9,10] (λs t wr=>∃i j:Nat,i<=j∧j<=l.length∧s=.int .i64 i∧t=.int .i64 j∧Hid (Sides l n i j)∧Below w.heap.size w wr) (λs t _=>(intOf t).toNat-(intOf s).toNat)
 case atStart=>exact⟨0,l.length,Nat.zero_le _,Nat.le_refl _,rfl,rfl,⟨λ_ _ h=>absurd h (by omega),λa h1 h2=>absurd h1 (by omega)⟩,Below.refl _ _⟩
 case round=>
  obtain⟨i,j,hij,hjl,rfl,rfl,hs,hb⟩:=hrel;by_cases hlt:i<j
  ·obtain⟨b,o,rfl,c0,c1,_⟩:=HC.out _ hb ((i+j) / 2) (by omega);have e2:(((i:Int)+(j:Int)) / 2).toNat=(i+j) / 2:=by omega
   have HH:(i+j) / 2<l.length:=by omega
   generalize hnm:(l[(i+j) / 2]'HH).name=nm at*;generalize har:(l[(i+j) / 2]'HH).arity=ar at*;have HN:Hid ((l[(i+j) / 2]'HH).name=nm):=hnm;clear hnm har;go_wp2_with (first|(go_at_call 117;refine(closure_any _ _ _ _).mono ?_;rintro e w' ⟨rfl,hb2⟩))
   case roundEnd=>exact⟨⟨(i+j) / 2+1,j,by omega,hjl,int_eq (by omega),rfl,hs.out.left HR.out HH (by rw[HN.out];assumption),hb.trans (hb2.mono hb.size)⟩,by simp[intOf];omega⟩
   case roundEnd=>exact⟨⟨i,(i+j) / 2,by omega,by omega,rfl,int_eq (by omega),hs.out.right HR.out HH (by rw[HN.out];omega),hb.trans (hb2.mono hb.size)⟩,by simp[intOf];omega⟩
  ·obtain rfl:i=j:=by omega
   by_cases hil:i<l.length
   ·obtain⟨b,o,rfl,c0,c1,_⟩:=HC.out _ hb i hil;have HF:Hid (hasN l n=(cmpB l[i].name n==0)):=hs.out.found HR.out hil;go_wp2_with (first|(go_at_call 117;refine(closure_any _ _ _ _).mono ?_;rintro e w' ⟨rfl,hb2⟩))
    go_ret2
    exact⟨⟨_,by rw[HF.out];rfl⟩,hb.trans (hb2.mono hb.size)⟩
   ·have HF:Hid (hasN l n=false):=hs.out.none hil;go_wp2;go_ret2
    exact⟨⟨_,by rw[HF.out];rfl⟩,hb⟩
theorem Imported_any(l:List LImp)(v:Value)(n:ByteArray)(w:World)(hI:ImpsAt w v l)(hr:Rising l):
 Calls Tryz.prog 74 #[v,.string n] w λe w'=>e=.returned (.bool (hasN l n))∧Below w.heap.size w w':=by
 have HI:Hid (ImpsAt w v l):=hI;have HR:Hid (Rising l):=hr;clear hI hr;go_enter Tryz.func74,Tryz.ntmps74;go_wp2_with (first|(go_at_call 116;refine(search_any l _ _ _ HI.out HR.out).mono ?_;rintro e w' ⟨⟨k,rfl⟩,hb2⟩))
 go_ret;exact⟨rfl,hb2⟩
def altOk(a:LAlt):Bool:=decide (0<=a.tag) && decide (a.tag<=255) && decide (0<=a.to) && decide (a.to<=65535)
def altsUpto(l:List LAlt)(k:Nat):Prop:=(∀j (h:j<l.length),j<k->altOk l[j]=true)∧∀i j (hi:i<l.length) (hj:j<l.length),i<j->j<k->l[i].tag≠l[j].tag
theorem altsUpto_next(l:List LAlt)(k:Nat)(hk:k<l.length)(h:altsUpto l k)(ho:altOk l[k]=true)(hn:∀i (hi:i<l.length),i<k->l[i].tag≠l[k].tag):altsUpto l (k+1):=by
 refine⟨λj hj hjk=>?_,λi j hi hj hij hjk=>?_⟩
 ·by_cases e:j=k
  ·subst e;exact ho
  ·exact h.1 j hj (by omega)
 ·by_cases e:j=k
  ·subst e;exact hn i hi hij
  ·exact h.2 i j hi hj hij (by omega)
theorem altsUpto_zero(l:List LAlt):altsUpto l 0:=⟨λ_ _ h=>absurd h (by omega),λ_ _ _ _ _ h=>absurd h (by omega)⟩
def tagsApart:List LAlt->Bool
 |[]=>true
 |a::r=>r.all (λb=>a.tag !=b.tag) && tagsApart r
def altsB(l:List LAlt):Bool:=l.all altOk && tagsApart l
theorem tagsApart_iff(l:List LAlt):tagsApart l=true↔l.Pairwise (λa b=>a.tag≠b.tag):=by
 induction l with
 |nil=>simp[tagsApart]
 |cons a r ih=>simp[tagsApart,ih]
theorem altsB_iff(l:List LAlt):altsB l=true↔altsUpto l l.length:=by
 unfold altsB altsUpto;rw[Bool.and_eq_true,tagsApart_iff,List.pairwise_iff_getElem,List.all_eq_true];constructor
 ·rintro⟨h1,h2⟩;exact⟨λj h _=>h1 _ (List.getElem_mem h),λi j hi hj hij _=>h2 i j hi hj hij⟩
 ·rintro⟨h1,h2⟩;refine⟨λx hx=>?_,λi j hi hj hij=>h2 i j hi hj hij hj⟩;obtain⟨i,hi,rfl⟩:=List.mem_iff_getElem.1 hx;exact h1 i hi hi
theorem altsB_bad(l:List LAlt)(k:Nat)(hk:k<l.length)(h:altOk l[k]=false):altsB l=false:=by
 rw[Bool.eq_false_iff];intro h2;have:=((altsB_iff l).1 h2).1 k hk hk;rw[h]at this;cases this
theorem altsB_twice(l:List LAlt)(k:Nat)(hk:k<l.length)(h:∃i,∃(hi:i<l.length),i<k∧l[i].tag=l[k].tag):altsB l=false:=by
 rw[Bool.eq_false_iff];intro h2;obtain⟨i,hi,hik,e⟩:=h;exact((altsB_iff l).1 h2).2 i k hi hk hik hk e
theorem altOk_to{l:List LAlt}{k:Nat}{hk:k<l.length}{tto:Int}(e:l[k].to=tto)(h:tto<0∨65535<tto):altOk l[k]=false:=by
 simp only[altOk,e,Bool.and_eq_false_iff,decide_eq_false_iff_not];omega
theorem altOk_tag{x:LAlt}(h:x.tag<0∨255<x.tag):altOk x=false:=by
 simp only[altOk,Bool.and_eq_false_iff,decide_eq_false_iff_not];omega
theorem zeroCells:Tryz.zeroCells345=Array.replicate 256 (.bool false):=by kernel_rfl
def Marks(w:World)(B:Nat)(l:List LAlt)(k:Nat):Prop:=
 B<w.heap.size∧∀t:Nat,t<256->w.frozen? ⟨B,t,none⟩=false∧∃s:Bool,w.cell? ⟨B,t,none⟩=some (.bool s)∧(s=true↔∃i,∃(h:i<l.length),i<k∧l[i].tag=t)
theorem Marks.zero(w:World)(l:List LAlt):Marks (w.alloc (.cells Tryz.zeroCells345 345)) w.heap.size l 0:=by
 refine⟨by simp,λt ht=>⟨by simp,false,?_,?_⟩⟩
 ·rw[zeroCells];simp[ht]
 ·constructor
  ·intro h;cases h
  ·rintro⟨i,h,h2,_⟩;omega
theorem Marks.next{w:World}{B:Nat}{l:List LAlt}{k:Nat}(hk:k<l.length)(h:Marks w B l k)(t:Nat)(ht:t<256)(e:l[k].tag=t)(o:Obj):Marks ((w.setCell ⟨B,t,none⟩ (.bool true)).alloc o) B l (k+1):=by
 obtain⟨h1,h2⟩:=h;refine⟨by simp[World.setCell];omega,λu hu=>?_⟩;obtain⟨hf,s,hs,hi⟩:=h2 u hu;have hb:Below (w.setCell ⟨B,t,none⟩ (.bool true)).heap.size (w.setCell ⟨B,t,none⟩ (.bool true)) ((w.setCell ⟨B,t,none⟩ (.bool true)).alloc o):=(Below.refl _ _).alloc (Nat.le_refl _) _;have hlt:B<(w.setCell ⟨B,t,none⟩ (.bool true)).heap.size:=by simp[World.setCell];omega
 refine⟨by rw[hb.frozen (p:=⟨B,u,none⟩) hlt];simpa using hf,?_⟩;by_cases hut:u=t
 ·subst hut;refine⟨true,?_,?_⟩
  ·rw[hb.cell (p:=⟨B,u,none⟩) hlt];exact World.cell?_setCell_same _ _ _ hs
  ·simp only[true_iff];exact⟨k,hk,by omega,e⟩
 ·refine⟨s,?_,?_⟩
  ·rw[hb.cell (p:=⟨B,u,none⟩) hlt,World.cell?_setCell_other _ _ _ _ (by intro h;simp at h)];exact hs
  ·rw[hi];constructor
   ·rintro⟨i,h,hik,he⟩;exact⟨i,h,by omega,he⟩
   ·rintro⟨i,h,hik,he⟩;refine⟨i,h,?_,he⟩;by_cases e2:i=k
    ·subst e2;omega
    ·omega
theorem goodAlts_mid(l:List LAlt)(v:Value)(w:World)(hA:AltsAt w v l)(h0:0<l.length)(h1:l.length<=256):
 Calls Tryz.prog 153 #[v] w λe w'=>e=.returned (.bool (altsB l))∧Below w.heap.size w w':=by
 obtain⟨p,cap,rfl,hs1,hcell⟩:=hA.open;have HC:Hid (∀w',Below w.heap.size w w'->AltsIn w' p l):=hcell;clear hcell hA;have hb:((l.length:Int)==0)=false:=by rw[beq_eq_false_iff_ne];omega
 go_enter Tryz.func153,Tryz.ntmps153;go_wp2;go_loopw [16] (λi wr=>∃k:Nat,k<=l.length∧i=.int .i64 k∧Hid (altsUpto l k)∧Hid (Marks wr w.heap.size l k)∧Below w.heap.size w wr) (λi _=>l.length-(intOf i).toNat)
 case atStart=>exact⟨0,Nat.zero_le _,rfl,altsUpto_zero l,Marks.zero w l,(Below.refl _ _).alloc (Nat.le_refl _) _⟩
 case round=>
  obtain⟨k,hk,rfl,ha,hm,hb⟩:=hrel;by_cases hlt:k<l.length
  ·obtain⟨b,o,rfl,c0,c1⟩:=HC.out _ hb k hlt;have hz:=hm.out.1;by_cases ht:0<=l[k].tag∧l[k].tag<=255
   ·obtain⟨ht1,ht2⟩:=ht;obtain⟨hf,s,hsc,hsi⟩:=hm.out.2 l[k].tag.toNat (by omega);have HS:Hid (s=true↔∃i,∃(h:i<l.length),i<k∧l[i].tag=(l[k].tag.toNat:Int)):=hsi;clear hsi;generalize hto:l[k].to=tto at*;generalize htg:l[k].tag=tg at*;have HTO:Hid (l[k].to=tto):=hto;have HTG:Hid (l[k].tag=tg):=htg;clear hto htg;cases s
    ·go_wp2;any_goals
      go_ret;exact⟨ret_bool (altsB_bad l k hlt (altOk_to HTO.out (by omega))).symm,hb.alloc hb.size _⟩
     all_goals
      refine⟨⟨k+1,by omega,by go_num,altsUpto_next l k hlt ha.out ?_ ?_,Marks.next hlt hm.out tg.toNat (by omega) (by rw[HTG.out];omega) _,?_⟩,by simp[intOf];omega⟩
      ·simp only[altOk,HTO.out,HTG.out];simp;omega
      ·intro i hi hik he;have:=HS.out.2 ⟨i,hi,hik,by rw[he,HTG.out];omega⟩;cases this
      ·exact(hb.setCell (p:=⟨w.heap.size,tg.toNat,none⟩) (Nat.le_refl _) _).alloc (by have:=hb.size;simp[World.setCell];omega) _
    ·go_wp2;all_goals
      go_ret;refine⟨ret_bool (altsB_twice l k hlt ?_).symm,hb.alloc hb.size _⟩;obtain⟨i,hi,hik,he⟩:=HS.out.1 (by trivial);exact⟨i,hi,hik,by rw[he,HTG.out];omega⟩
   ·go_wp2;all_goals
     go_ret;exact⟨ret_bool (altsB_bad l k hlt (altOk_tag (by omega))).symm,hb.alloc hb.size _⟩
  ·go_wp2;go_ret;exact⟨ret_bool (((altsB_iff l).2 (by have:=ha.out;rw[show k=l.length by omega]at this;exact this))).symm,hb⟩
def altsGood(l:List LAlt):Bool:=decide (0<l.length) && decide (l.length<=256) && altsB l
theorem goodAlts_any(l:List LAlt)(v:Value)(w:World)(hA:AltsAt w v l):
 Calls Tryz.prog 153 #[v] w λe w'=>e=.returned (.bool (altsGood l))∧Below w.heap.size w w':=by
 by_cases h0:0<l.length
 ·by_cases h1:l.length<=256
  ·have e:altsGood l=altsB l:=by simp[altsGood,h0,h1]
   rw[e];exact goodAlts_mid l v w hA h0 h1
  ·have e:altsGood l=false:=by simp[altsGood,h1]
   have HE:Hid (altsGood l=false):=e;clear e;obtain⟨p,cap,rfl,hs1,-⟩:=hA.open;clear hA;have hb:((l.length:Int)==0)=false:=by rw[beq_eq_false_iff_ne];omega
   go_enter Tryz.func153,Tryz.ntmps153;go_wp2;go_ret;exact⟨ret_bool HE.out.symm,Below.refl _ _⟩
 ·have e:altsGood l=false:=by simp[altsGood,h0]
  have HE:Hid (altsGood l=false):=e;clear e;obtain⟨p,cap,rfl,hs1,-⟩:=hA.open;clear hA;have hb:((l.length:Int)==0)=true:=by rw[beq_iff_eq];omega
  go_enter Tryz.func153,Tryz.ntmps153;go_wp2;go_ret;exact⟨ret_bool HE.out.symm,Below.refl _ _⟩
end Go.Proofs.YtcpcplaeaimmpaaGreatDoor
