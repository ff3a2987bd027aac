import Derived.Test.YtcpcplaeaimmpaaGreatDoorPq8S
set_option maxRecDepth 100000
set_option maxHeartbeats 8000000
namespace Go.Proofs.YtcpcplaeaimmpaaGreatDoor
open Go.RowKit Go.Sort
theorem RowS.push2{α:Type}{cells:α->List Value}{sub:α->List Nat}{ok:World->α->Prop}{e:TypeId}{size:Nat}(hok:OkFr sub ok){w w1 w2:World}{lo:Nat}{v:Value}{xs:List α}(h:RowS cells sub ok e size w lo v xs)(hlo:lo<=w.heap.size)(hf:Fr (rowB sub v xs) w w1)(hs:w.heap.size<=w1.heap.size)
 {x:α} (hx:ok w1 x) (hr:∀b∈sub x,lo<=b∧b<w1.heap.size∧b∉rowB sub v xs) (hnx:(sub x).Nodup) (hg:w1.grownBy w2 v.ownBlock) {g n c:Nat} (hn:n=xs.length+1) (hat:v.ownBlock=some g∨g=w1.heap.size) (hlt:g<w2.heap.size)
 (hown:w2.ownsRow 0 e size (.slice (some ⟨g,0,none⟩) n c) n (xs.flatMap cells++cells x)):RowS cells sub ok e size w2 lo (.slice (some ⟨g,0,none⟩) n c) (xs++[x]):=by
 subst hn;have hsub:∀b∈xs.flatMap sub,lo<=b∧b<w.heap.size∧v.ownBlock≠some b:=by
  intro b hb;have h1:=h.rg b (List.mem_append_right _ hb);refine⟨h1.1,h1.2,λe=>?_⟩;exact(List.nodup_append.1 h.nd).2.2 b (mem_vB.2 e) b hb rfl
 have hnv:∀b∈sub x,v.ownBlock≠some b:=λb hb e=>(hr b hb).2.2 (List.mem_append_left _ (mem_vB.2 e));have hgx:g∉sub x:=λhb=>by
  rcases hat with e|e
  ·exact hnv g hb e
  ·have:=hr g hb;omega
 have hgs:g∉xs.flatMap sub:=λhb=>by
  rcases hat with e|e
  ·exact(hsub g hb).2.2 e
  ·have:=hsub g hb;omega
 refine⟨?_,λy hy=>?_,?_,λb hb=>?_⟩
 ·rw[List.length_append,List.flatMap_append];simpa using hown
 ·rcases List.mem_append.1 hy with hy|hy
  ·refine hok w w2 y (h.it y hy) (Nat.le_trans hs hg.size) λb hb=>?_;have hm:=List.mem_flatMap.2 ⟨y,hy,hb⟩;have h1:=hsub b hm;rw[hg.block b (by omega) (λe=>h1.2.2 e.symm)];exact hf b (List.mem_append_right _ hm)
  ·obtain rfl:=List.mem_singleton.1 hy;refine hok w1 w2 y hx hg.size λb hb=>hg.block b (hr b hb).2.1 (λe=>hnv b hb e.symm)
 ·unfold rowB;rw[vB_slice,List.flatMap_append,List.flatMap_cons,List.flatMap_nil,List.append_nil,List.singleton_append,List.nodup_cons,List.mem_append,List.nodup_append];refine⟨λhb=>hb.elim hgs hgx,(List.nodup_append.1 h.nd).2.1,hnx,λa ha b hb e=>?_⟩;subst e;exact(hr a hb).2.2 (List.mem_append_right _ ha)
 ·unfold rowB at hb;rw[vB_slice,List.flatMap_append,List.flatMap_cons,List.flatMap_nil,List.append_nil]at hb;have hsz:=hg.size;rcases List.mem_append.1 hb with hb|hb
  ·obtain rfl:=List.mem_singleton.1 hb;rcases hat with e|e
   ·have:=h.rg b (List.mem_append_left _ (mem_vB.2 e));omega
   ·omega
  ·rcases List.mem_append.1 hb with hb|hb
   ·have:=hsub b hb;omega
   ·have:=hr b hb;omega
def umB(U:Nat)(kv tv:Value)(ts:List TT):List Nat:=U::(vB kv++rowB ttS tv ts)
structure UMem (lo:Nat) (w:World) (U:Nat) (kn:List ByteArray) (ts:List TT) (kv tv gv:Value):Prop where
 u:V3 w U kv tv gv
 kn:StrsO w lo kv kn
 td:TodoO w lo tv ts
 nd:(umB U kv tv ts).Nodup
 ul:lo<=U
section
variable {lo:Nat} {w w' wr Z w4:World} {U:Nat} {kn:List ByteArray} {ts:List TT} {kv tv gv:Value} {g c:Nat}
theorem UMem.rg(h:UMem lo w U kn ts kv tv gv):∀b∈umB U kv tv ts,lo<=b∧b<w.heap.size:=by
 intro b hb;rcases List.mem_cons.1 hb with rfl|hb
 ·exact⟨h.ul,h.u.lt⟩
 rcases List.mem_append.1 hb with hb|hb
 ·exact h.kn.rg b (List.mem_append_left _ hb)
 ·exact h.td.rg b hb
theorem UMem.fr(h:UMem lo w U kn ts kv tv gv)(hz:w.heap.size<=w'.heap.size)(hf:Fr (umB U kv tv ts) w w'):UMem lo w' U kn ts kv tv gv:=
 ⟨h.u.of_block (hf U (List.mem_cons_self ..)),h.kn.fr okStr hz (hf.sub λ_ hb=>List.mem_cons_of_mem _ (List.mem_append_left _ (rowB_plain hb))),h.td.fr okTd hz (hf.sub λ_ hb=>List.mem_cons_of_mem _ (List.mem_append_right _ hb)),h.nd,h.ul⟩
theorem UMem.keep(h:UMem lo w U kn ts kv tv gv)(hb:Below w.heap.size w w'):UMem lo w' U kn ts kv tv gv:=h.fr hb.size λb hm=>hb.block b (h.rg b hm).2
theorem UMem.pushK(h:UMem lo wr U kn ts kv tv gv){x:ByteArray}(hb:Below wr.heap.size wr Z)(hg:Z.grownBy w4 kv.ownBlock)(hat:kv.ownBlock=some g∨g=Z.heap.size)(hlt:g<w4.heap.size)
 (hown:w4.ownsRow 0 9 1 (.slice (some ⟨g,0,none⟩) (kn.length+1) c) (kn.length+1) (kn.flatMap strC++strC x)):
 UMem lo (w4.setCell ⟨U,0,none⟩ (.slice (some ⟨g,0,none⟩) (kn.length+1) c)) U (kn++[x]) ts (.slice (some ⟨g,0,none⟩) (kn.length+1) c) tv gv:=by
 have hzb:=hb.size;have hz4:=hg.size;have hnd:=h.nd;have hrg:=h.rg;have hloZ:lo<=wr.heap.size:=Nat.le_trans h.ul (Nat.le_of_lt h.u.lt);have hrow:StrsO w4 lo (.slice (some ⟨g,0,none⟩) (kn.length+1) c) (kn++[x]):=
  h.kn.push okStr hloZ (w1:=Z) (λb hb'=>hb.block b (h.kn.rg b hb').2) hzb trivial (λb hb'=>by cases hb') List.nodup_nil hg rfl hat hlt hown
 have hL:umB U kv tv ts=[U]++(vB kv++rowB ttS tv ts):=rfl;have hL':umB U (.slice (some ⟨g,0,none⟩) (kn.length+1) c) tv ts=[U]++([g]++rowB ttS tv ts):=by unfold umB;rw[vB_slice];rfl
 rw[hL]at hnd hrg;have hnew:vB kv=[g]∨(g∉[U]∧g∉rowB ttS tv ts):=by
  rcases hat with h1|h1
  ·exact Or.inl (vB_own h1)
  ·right
   constructor
   ·intro hm;have:=(hrg g (List.mem_append_left _ hm)).2;omega
   ·intro hm;have:=(hrg g (List.mem_append_right _ (List.mem_append_right _ hm))).2;omega
 have hnd':=nodup_swap hnd hnew;obtain⟨nA,nB,nC⟩:=List.nodup_append.1 hnd;obtain⟨nD,nE,nF⟩:=List.nodup_append.1 nB;have hoff:∀b,(b∈[U]∨b∈rowB ttS tv ts)->w4.heap[b]?=wr.heap[b]?:=by
  intro b hm;have hbl:b<wr.heap.size:=by
   rcases hm with hm|hm
   ·exact(hrg b (List.mem_append_left _ hm)).2
   ·exact(hrg b (List.mem_append_right _ (List.mem_append_right _ hm))).2
  rw[hg.block b (by omega) (λe=>?_)]
  ·exact hb.block b hbl
  ·have hcv:b∈vB kv:=mem_vB.2 e.symm;rcases hm with hm|hm
   ·exact nC b hm b (List.mem_append_left _ hcv) rfl
   ·exact nF b hcv b hm rfl
 have hsetn:∀b,b≠U->(w4.setCell ⟨U,0,none⟩ (.slice (some ⟨g,0,none⟩) (kn.length+1) c)).heap[b]?=w4.heap[b]?:=λb hb'=>Below.heap_setCell _ _ _ _ hb';have hnU:∀b,b∈([g]++rowB ttS tv ts)->b≠U:=λb hm e=>(List.nodup_append.1 hnd').2.2 U (by simp) b hm e.symm;have hsz:wr.heap.size<=(w4.setCell ⟨U,0,none⟩ (.slice (some ⟨g,0,none⟩) (kn.length+1) c)).heap.size:=by simp;omega
 refine⟨(h.u.of_block (hoff U (Or.inl (by simp)))).set0 _,hrow.fr okStr (by simp) λb hb'=>hsetn b (hnU b ?_),h.td.fr okTd hsz λb hb'=>?_,by rw[hL'];exact hnd',h.ul⟩
 ·have:=rowB_plain hb';rw[vB_slice]at this;exact List.mem_append_left _ this
 ·rw[hsetn b (hnU b (List.mem_append_right _ hb'))];exact hoff b (Or.inr hb')
theorem UMem.pushT(h:UMem lo wr U kn ts kv tv gv){x:TT}(hx:okTT Z x)(hxb:∀b∈ttS x,lo<=b∧b<Z.heap.size∧b∉umB U kv tv ts)(hb:Below wr.heap.size wr Z)(hg:Z.grownBy w4 tv.ownBlock)(hat:tv.ownBlock=some g∨g=Z.heap.size)(hlt:g<w4.heap.size)
 (hown:w4.ownsRow 0 228 3 (.slice (some ⟨g,0,none⟩) (ts.length+1) c) (ts.length+1) (ts.flatMap ttC++ttC x)):
 UMem lo (w4.setCell ⟨U,1,none⟩ (.slice (some ⟨g,0,none⟩) (ts.length+1) c)) U kn (ts++[x]) kv (.slice (some ⟨g,0,none⟩) (ts.length+1) c) gv:=by
 have hzb:=hb.size;have hz4:=hg.size;have hnd:=h.nd;have hrg:=h.rg;have hloZ:lo<=wr.heap.size:=Nat.le_trans h.ul (Nat.le_of_lt h.u.lt);have hrow:TodoO w4 lo (.slice (some ⟨g,0,none⟩) (ts.length+1) c) (ts++[x]):=
  RowS.push2 okTd h.td hloZ (w1:=Z) (λb hb'=>hb.block b (h.td.rg b hb').2) hzb hx (λb hb'=>⟨(hxb b hb').1,(hxb b hb').2.1,λhm=>(hxb b hb').2.2 (List.mem_cons_of_mem _ (List.mem_append_right _ hm))⟩) (vB_nodup _) hg rfl hat hlt hown
 have hL:umB U kv tv ts=(U::vB kv)++(vB tv++ts.flatMap ttS):=rfl;have hsub:∀b∈rowB ttS (.slice (some ⟨g,0,none⟩) (ts.length+1) c) (ts++[x]),b=g∨b∈ts.flatMap ttS∨b∈ttS x:=by
  intro b hb';rcases List.mem_append.1 hb' with h1|h1
  ·rw[vB_slice]at h1;exact Or.inl (by simpa using h1)
  ·rw[List.flatMap_append]at h1;rcases List.mem_append.1 h1 with h2|h2
   ·exact Or.inr (Or.inl h2)
   ·exact Or.inr (Or.inr (by simpa using h2))
 rw[hL]at hnd hrg;obtain⟨nA,nB,nC⟩:=List.nodup_append.1 hnd;obtain⟨nD,nE,nF⟩:=List.nodup_append.1 nB;have hold:∀b,b∈(U::vB kv)->b∉rowB ttS (.slice (some ⟨g,0,none⟩) (ts.length+1) c) (ts++[x]):=by
  intro b hm hb';have hbl:=(hrg b (List.mem_append_left _ hm)).2;rcases hsub b hb' with rfl|h1|h1
  ·rcases hat with h2|h2
   ·exact nC b hm b (List.mem_append_left _ (mem_vB.2 h2)) rfl
   ·omega
  ·exact nC b hm b (List.mem_append_right _ h1) rfl
  ·refine(hxb b h1).2.2 ?_;rcases List.mem_cons.1 hm with rfl|hm
   ·exact List.mem_cons_self ..
   ·exact List.mem_cons_of_mem _ (List.mem_append_left _ hm)
 have hoff:∀b,b∈(U::vB kv)->w4.heap[b]?=wr.heap[b]?:=by
  intro b hm;have hbl:=(hrg b (List.mem_append_left _ hm)).2;rw[hg.block b (by omega) (λe=>nC b hm b (List.mem_append_left _ (mem_vB.2 e.symm)) rfl)];exact hb.block b hbl
 have hsetn:∀b,b≠U->(w4.setCell ⟨U,1,none⟩ (.slice (some ⟨g,0,none⟩) (ts.length+1) c)).heap[b]?=w4.heap[b]?:=λb hb'=>Below.heap_setCell _ _ _ _ hb';have hsz:wr.heap.size<=(w4.setCell ⟨U,1,none⟩ (.slice (some ⟨g,0,none⟩) (ts.length+1) c)).heap.size:=by simp;omega
 obtain⟨nU,nkv⟩:=List.nodup_cons.1 nA;refine⟨(h.u.of_block (hoff U (by simp))).set1 _,h.kn.fr okStr hsz λb hb'=>?_,hrow.fr okTd (by simp) λb hb'=>hsetn b (λe=>hold U (by simp) (e▸hb')),?_,h.ul⟩
 ·have hk:=rowB_plain hb';rw[hsetn b (λe=>nU (e▸hk))];exact hoff b (List.mem_cons_of_mem _ hk)
 ·show(U::(vB kv++rowB ttS _ (ts++[x]))).Nodup;rw[<-List.cons_append];exact List.nodup_append.2 ⟨nA,hrow.nd,λa ha b hb' e=>hold a ha (e▸hb')⟩
end
theorem Tryz.strI7:(Tryz.prog.info? 9).map (λi=>(i.zero,i.size,i.bytes))=some (some (.string ⟨#[]⟩),1,16):=by kernel_rfl
theorem Tryz.taskI:(Tryz.prog.info? 228).map (λi=>(i.zero,i.size,i.bytes))=some (some (.agg #[.string ⟨#[]⟩,.slice none 0 0,.nilIface]),3,56):=by kernel_rfl
theorem UMem.uG{lo:Nat}{wr Z w4:World}{U:Nat}{kn:List ByteArray}{ts:List TT}{kv tv gv:Value}(h:UMem lo wr U kn ts kv tv gv){v:Value}(hv:v=kv∨v=tv)(hb:Below wr.heap.size wr Z)(hg:Z.grownBy w4 v.ownBlock):V3 w4 U kv tv gv:=by
 have hz:=hb.size;have hu:=h.u.lt;refine h.u.of_block ?_;rw[hg.block U (by omega) (λe=>(List.nodup_cons.1 h.nd).1 ?_)]
 ·exact hb.block U hu
 ·rcases hv with rfl|rfl
  ·exact List.mem_append_left _ (mem_vB.2 e.symm)
  ·exact List.mem_append_right _ (List.mem_append_left _ (mem_vB.2 e.symm))
def CAddRes(lo:Nat)(w:World)(U:Nat)(kn:List ByteArray)(ts:List TT)(kv tv gv:Value)(x:TT)(e:Ending)(w':World):Prop:=e=.returned (.tuple #[])∧AF (U::(vB kv++vB tv)) w w'∧∃kv' tv',UMem lo w' U (kn++[x.1]) (ts++[x]) kv' tv' gv∧(∀b∈vB kv',b∈vB kv∨w.heap.size<=b)∧∀b∈vB tv',b∈vB tv∨w.heap.size<=b
theorem cadd_any{lo:Nat}{w:World}{U:Nat}{kn:List ByteArray}{ts:List TT}{kv tv gv:Value}(t:ByteArray)(pp:Option Addr)(pn pc:Nat)(pl:List ByteArray)(bt:TypeId)(bx:Value)(be:Ex)(bb:List Nat)(h:UMem lo w U kn ts kv tv gv)(hp:StrsO w 0 (.slice pp pn pc) pl)(hpn:∀b∈vB (.slice pp pn pc),b∉umB U kv tv ts)(hlp:∀b∈vB (.slice pp pn pc),lo<=b)(hk:kn.length<=100000)(ht:ts.length<=100000):
 Calls Tryz.prog 92 #[.pointer (some ⟨U,0,none⟩),.agg #[.string t,.slice pp pn pc,.iface bt bx]] w λe w'=>CAddRes lo w U kn ts kv tv gv (t,(.slice pp pn pc,pl),(.iface bt bx,be,bb)) e w':=by
 obtain⟨kp,kc,rfl⟩:=h.kn.slice;obtain⟨tp,tc,rfl⟩:=h.td.slice;obtain⟨si,hsi,hsj⟩:=Option.map_eq_some_iff.1 Tryz.strI7;simp only[Prod.mk.injEq]at hsj;obtain⟨hs0,hs1,hs2⟩:=hsj;obtain⟨ti,hti,htj⟩:=Option.map_eq_some_iff.1 Tryz.taskI;simp only[Prod.mk.injEq]at htj;obtain⟨ht0,ht1,ht2⟩:=htj;obtain⟨w0,hw0⟩:∃w0,w0=w.alloc (.cells #[.string t,.slice pp pn pc,.iface bt bx] 228):=⟨_,rfl⟩;have hb0:Below w.heap.size w w0:=by rw[hw0];exact(Below.refl _ _).alloc (Nat.le_refl _) _
 have HM:=hid h;have HM0:=hid (h.keep hb0);have HB0:=hid hb0;have hUw:=h.u.lt;obtain⟨k0,k1,k2,kf⟩:=id HM0.out.u;have kf0:=kf 0;have hz0:w0.heap.size=w.heap.size+1:=by rw[hw0];simp
 have HI0:Hid (V3 w0 w.heap.size (.string t) (.slice pp pn pc) (.iface bt bx)):=by
  subst hw0;exact⟨by simp,by simp,by simp,λj=>by simp⟩
 obtain⟨j0,j1,j2,-⟩:=id HI0.out;have k0a:=λo=>alloc_old w0 o _ _ _ k0;have j0a:=λo=>alloc_old w0 o _ _ _ j0;have j1a:=λo=>alloc_old w0 o _ _ _ j1;have j2a:=λo=>alloc_old w0 o _ _ _ j2;have HZ1:Hid (∀o,Below w0.heap.size w0 (w0.alloc o)):=λo=>(Below.refl _ _).alloc (Nat.le_refl _) _;have HPP:Hid (StrsO w 0 (.slice pp pn pc) pl∧(∀b∈vB (.slice pp pn pc),b∉umB U (.slice kp kn.length kc) (.slice tp ts.length tc) ts)∧∀b∈vB (.slice pp pn pc),lo<=b):=⟨hp,hpn,hlp⟩;have HPX:Hid (∀(Z w4:World) (g c:Nat),Below w0.heap.size w0 Z->Z.grownBy w4 (Value.slice kp kn.length kc).ownBlock->((Value.slice kp kn.length kc).ownBlock=some g∨g=Z.heap.size)->g<w4.heap.size->w4.ownsRow 0 9 1 (.slice (some ⟨g,0,none⟩) (kn.length+1) c) (kn.length+1) (kn.flatMap strC++[.string t])->UMem lo (w4.setCell ⟨U,0,none⟩ (.slice (some ⟨g,0,none⟩) (kn.length+1) c)) U (kn++[t]) ts (.slice (some ⟨g,0,none⟩) (kn.length+1) c) (.slice tp ts.length tc) gv∧V3 (w4.setCell ⟨U,0,none⟩ (.slice (some ⟨g,0,none⟩) (kn.length+1) c)) w.heap.size (.string t) (.slice pp pn pc) (.iface bt bx)∧AF (U::vB (.slice kp kn.length kc)) w (w4.setCell ⟨U,0,none⟩ (.slice (some ⟨g,0,none⟩) (kn.length+1) c))∧∀b∈vB (.slice (some ⟨g,0,none⟩) (kn.length+1) c),b∈vB (.slice kp kn.length kc)∨w.heap.size<=b):=by
  intro Z w4 g c hbZ hg hat hlt hown;have hzZ:=hbZ.size;have hbw:Below w.heap.size w Z:=HB0.out.trans (hbZ.mono (by omega));refine⟨HM0.out.pushK (x:=t) hbZ hg hat hlt hown,?_,AF.grown hbw hg,λb hb=>?_⟩
  ·refine HI0.out.of_block ?_;rw[Below.heap_setCell _ _ _ _ (show w.heap.size≠U by omega),hg.block _ (by omega) (λe=>by have:=(HM.out.kn.rg _ (List.mem_append_left _ (mem_vB.2 e.symm))).2;omega)];exact hbZ.block _ (by omega)
  ·rw[vB_slice]at hb;obtain rfl:=List.mem_singleton.1 hb;rcases hat with h1|h1
   ·exact Or.inl (mem_vB.2 h1)
   ·right;omega
 clear h kf hb0 hp hpn hlp;go_enter Tryz.func92,Tryz.ntmps92;go_upto_region 1 with(fail)
 rw[<-hw0];have HZ0:=hid hz0;clear hw0 hz0;go_cut [] (λwx=>∃kv',Hid (UMem lo wx U (kn++[t]) ts kv' (.slice tp ts.length tc) gv∧V3 wx w.heap.size (.string t) (.slice pp pn pc) (.iface bt bx)∧AF (U::vB (.slice kp kn.length kc)) w wx∧∀b∈vB kv',b∈vB (.slice kp kn.length kc)∨w.heap.size<=b))
 case first=>
  go_region_law
   (first
   |(refine step_append_lies _ rfl (.tmp 8) (.tmp 11) 66 rfl 0 9 si _ 1 16 Tryz.underlying66 hsi hs0 hs1 hs2 rfl (by omega) (.slice kp kn.length kc) kn.length (kn.flatMap strC) (by simp[Act.eval];done) (HM0.out.kn.own.alloc _) ⟨w0.heap.size,0,none⟩ 1 1 [.string t] (by simp[Act.eval];done) rfl (by have h:=World.news_of_block (heap_alloc_new w0 (Obj.cells #[.string t] 9));simpa using h) (by intro u hu;simp at hu;subst hu;rfl) (by omega) (by unfold maxLen;omega) (by omega) (Nat.zero_le _) _ rfl ?_;intro g1 c1 w4 hown hgrow hat hlt1;have HMX:=hid (HPX.out _ _ _ _ (by first|exact HZ1.out _|exact below_drew3 (HZ1.out _)) hgrow hat hlt1 hown);obtain⟨e0,e1,e2,ef⟩:=HM0.out.uG (Or.inl rfl) (by first|exact HZ1.out _|exact below_drew3 (HZ1.out _)) hgrow;have ef0:=ef 0;clear hown hgrow hat hlt1 ef e1 e2))
  all_goals
   go_wp2_with fail
   go_meet
   exact⟨_,HMX⟩
 case rest=>
  rename World=>wx
  obtain⟨kv',HK⟩:=hcut;clear k0 k1 k2 kf0 j0 j1 j2 k0a j0a j1a j2a HPX HZ1;obtain⟨k0,k1,k2,kf⟩:=id HK.out.1.u;have kf1:=kf 1;obtain⟨j0,j1,j2,-⟩:=id HK.out.2.1;have k1a:=λo=>alloc_old wx o _ _ _ k1;have j0a:=λo=>alloc_old wx o _ _ _ j0;have j1a:=λo=>alloc_old wx o _ _ _ j1;have j2a:=λo=>alloc_old wx o _ _ _ j2;have HZ1:Hid (∀o,Below wx.heap.size wx (wx.alloc o)):=λo=>(Below.refl _ _).alloc (Nat.le_refl _) _;have HPX:Hid (∀(Z w4:World) (g c:Nat),Below wx.heap.size wx Z->Z.grownBy w4 (Value.slice tp ts.length tc).ownBlock->((Value.slice tp ts.length tc).ownBlock=some g∨g=Z.heap.size)->g<w4.heap.size->w4.ownsRow 0 228 3 (.slice (some ⟨g,0,none⟩) (ts.length+1) c) (ts.length+1) (ts.flatMap ttC++[.string t,.slice pp pn pc,.iface bt bx])->CAddRes lo w U kn ts (.slice kp kn.length kc) (.slice tp ts.length tc) gv (t,(.slice pp pn pc,pl),(.iface bt bx,be,bb)) (.returned (.tuple #[])) (w4.setCell ⟨U,1,none⟩ (.slice (some ⟨g,0,none⟩) (ts.length+1) c))):=by
   intro Z w4 g c hbZ hg hat hlt hown;have hzZ:=hbZ.size;obtain⟨q1,q2,q3⟩:=HPP.out;obtain⟨r1,r2,r3,r4⟩:=HK.out;have hzx:=r3.size;have hold:∀b∈vB (.slice pp pn pc),b<w.heap.size∧wx.heap[b]?=w.heap[b]?:=λb hb=>by
    have hl:=(q1.rg b (List.mem_append_left _ hb)).2;refine⟨hl,r3.block b hl λhm=>q2 b hb ?_⟩;rcases List.mem_cons.1 hm with rfl|hm
    ·exact List.mem_cons_self ..
    ·exact List.mem_cons_of_mem _ (List.mem_append_left _ hm)
   have hpx:StrsO Z 0 (.slice pp pn pc) pl:=q1.fr okStr (by omega) λb hb=>by
    have h1:=hold b (rowB_plain hb);rw[hbZ.block b (by omega)];exact h1.2
   refine⟨rfl,r3.grow2 hbZ hg,_,_,r1.pushT (x:=(t,(.slice pp pn pc,pl),(.iface bt bx,be,bb))) hpx (λb hb=>⟨q3 b hb,by have:=hold b hb;omega,λhm=>?_⟩) hbZ hg hat hlt hown,r4,λb hb=>?_⟩
   ·rcases List.mem_cons.1 hm with rfl|hm
    ·exact q2 _ hb (List.mem_cons_self ..)
    rcases List.mem_append.1 hm with hm|hm
    ·rcases r4 b hm with h1|h1
     ·exact q2 _ hb (List.mem_cons_of_mem _ (List.mem_append_left _ h1))
     ·have:=hold b hb;omega
    ·exact q2 _ hb (List.mem_cons_of_mem _ (List.mem_append_right _ hm))
   ·rw[vB_slice]at hb;obtain rfl:=List.mem_singleton.1 hb;rcases hat with h1|h1
    ·exact Or.inl (mem_vB.2 h1)
    ·right;omega
  clear kf k0 k2;go_wp2_with fail
  go_region_law
   (first
   |(refine step_append_lies _ rfl (.tmp 19) (.tmp 21) 221 rfl 0 228 ti _ 3 56 Tryz.underlying221 hti ht0 ht1 ht2 rfl (by omega) (.slice tp ts.length tc) ts.length (ts.flatMap ttC) (by simp[Act.eval];done) (HK.out.1.td.own.alloc _) ⟨wx.heap.size,0,none⟩ 1 1 [.string t,.slice pp pn pc,.iface bt bx] (by simp[Act.eval];done) rfl (by have h:=World.news_of_block (heap_alloc_new wx (Obj.cells #[.string t,.slice pp pn pc,.iface bt bx] 228));simpa using h) (by intro u hu;simp at hu;rcases hu with rfl|rfl|rfl<;>rfl) (by omega) (by unfold maxLen;omega) (by omega) (Nat.zero_le _) _ rfl ?_;intro g1 c1 w4 hown hgrow hat hlt1;have HMX:=hid (HPX.out _ _ _ _ (by first|exact HZ1.out _|exact below_drew3 (HZ1.out _)) hgrow hat hlt1 hown);obtain⟨e0,e1,e2,ef⟩:=HK.out.1.uG (Or.inr rfl) (by first|exact HZ1.out _|exact below_drew3 (HZ1.out _)) hgrow;have ef1:=ef 1;clear hown hgrow hat hlt1 ef e0 e2))
  all_goals
   go_wp2_with fail
   refine bE ?_;exact HMX.out
end Go.Proofs.YtcpcplaeaimmpaaGreatDoor
