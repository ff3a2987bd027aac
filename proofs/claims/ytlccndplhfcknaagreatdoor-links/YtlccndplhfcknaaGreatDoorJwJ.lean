import Derived.Test.YtlccndplhfcknaaGreatDoorJuJ
import Derived.Lib.AppendStr
import Derived.ScopeJumps
import Derived.WalkMore
import Derived.Laws.OwnMore
set_option maxRecDepth 100000
set_option maxHeartbeats 2000000
namespace Go.Proofs.YtlccndplhfcknaaGreatDoor
open Go.RowKit Go.Sort Go.Lib
theorem app_str{P:Program}(w:World)(base:Nat)(t u ty e:TypeId)(i:TypeInfo)(ht:P.underlying t=some (.slice e))(hu:P.underlying u=some .string)(hi:P.info? e=some i)(hz:i.zero=some (.int .u8 0))(hsize:i.size=1)(hby:i.bytes=1)
 (v:Value) (n:Nat) (xs:List Value) (hown:w.ownsRow base e 1 v n xs) (s:ByteArray) (h63:n+s.size<=maxLen) (hbytes:n+s.size<=140737488355328) (hbase:base<=w.heap.size):
 ∃v' w',(Builtin.append_ #[t,u] ty #[v,.string s]).run P w=.ok v' w'∧w'.ownsRow base e 1 v' (n+s.size) (xs++strCells s)∧w.grownBy w' v.ownBlock∧∀b,v'.ownBlock=some b->v.ownBlock=some b∨w.heap.size<=b:=by
 obtain⟨v',w',hr,h2,h3,-⟩:=run_append_own_string (P:=P) w base t u ty e i ht hu hi hz hsize hby v n xs hown s h63 hbytes hbase;refine⟨v',w',hr,h2,h3,λb hb=>?_⟩;rcases hown.2 with⟨rfl,rfl⟩|⟨g,cap,cur,rfl,hbg,hg,hnc,hcm,hcs,htake⟩
 ·have hown2:w.ownsRow w.heap.size e 1 (.slice none 0 0) 0 xs:=⟨hown.1,.inl ⟨rfl,rfl⟩⟩;obtain⟨v2,w2,hr2,h4,-,-⟩:=run_append_own_string (P:=P) w w.heap.size t u ty e i ht hu hi hz hsize hby _ 0 xs hown2 s h63 hbytes (Nat.le_refl _);rw[hr]at hr2;cases hr2;exact Or.inr (row_low h4 hb)
 ·by_cases hroom:n+s.size<=cap
  ·have hr2:=run_append_room_string (P:=P) w t u ty e i ht hu hi hsize g n cap cur hg s hroom (by simp at hcs;omega);rw[hr]at hr2;cases hr2;exact Or.inl hb
  ·have hxl:xs.length=n:=by simpa using hown.1
   have holds:∀j u,xs[j]?=some u->w.cell? ((⟨g,0,none⟩:Addr).add j)=some u:=hown.cells (g:=g) rfl;have hr2:=run_append_grow_string (P:=P) w t u ty e i (.int .u8 0) ht hu hi hz ⟨g,0,none⟩ n cap xs (by rw[hsize];simpa using hxl) holds s (by omega) (by simp only[maxLen]at h63;omega) (by rw[hby];exact growslice_fits (by omega) (by omega));rw[hr]at hr2;cases hr2;cases hb;exact Or.inr (Nat.le_refl _)
theorem wpApp_str{P:Program}{w:World}{ops:Array Oper}{rest:List Oper}{o:Oper}{a:Act}{Q:Exit->Act->World->Prop}(hgd:o.guard=none)(sl x:Operand)(t u:TypeId)
 (ho:o.op=.call {callee:=.builtin .append,args:=#[sl,x],argTypes:=#[t,u]})
 (base:Nat) (e:TypeId) (i:TypeInfo) (ht:P.underlying t=some (.slice e)) (hu:P.underlying u=some .string) (hi:P.info? e=some i) (hz:i.zero=some (.int .u8 0)) (hsize:i.size=1) (hby:i.bytes=1)
 (v:Value) (n:Nat) (xs:List Value) (hs:a.eval sl=v) (hown:w.ownsRow base e 1 v n xs) (s:ByteArray) (hx:a.eval x=.string s) (h63:n+s.size<=maxLen) (hbytes:n+s.size<=140737488355328) (hbase:base<=w.heap.size)
 (h:∀v' w',w'.ownsRow base e 1 v' (n+s.size) (xs++strCells s)->w.grownBy w' v.ownBlock->(∀b,v'.ownBlock=some b->v.ownBlock=some b∨w.heap.size<=b)->wpList P ops Q rest (a.put o.dst v') w'):wpList P ops Q (o::rest) a w:=by
 refine wpList_plain hgd λK hK=>?_;obtain⟨v',w',hr,h2,h3,h4⟩:=app_str (P:=P) w base t u o.type e i ht hu hi hz hsize hby v n xs hown s h63 hbytes hbase;unfold Oper.wp execOp;simp only[ho,resolve,invoke,builtin,Sem.run_bind,Sem.run_pure,Result.andThen_ok,List.map_toArray,List.map_cons,List.map_nil,hs,hx,hr];exact hK _ _ (h v' w' h2 h3 h4)
section
variable {lo:Nat} {w w4:World} {M Pb:Nat} {st:MSt} {cs:List (MCl×Value)} {ds:List (MFr×Value)} {cv sv kv dv tv:Value}
theorem MMem.turnT(h:MMem lo w M Pb st cs ds cv sv kv dv tv)(hA:AG (vB tv) w w4){tv':Value}{t':List UInt8}(hown:w4.ownsRow lo 5 1 tv' t'.length (btC t'))(hv:∀b∈vB tv',b∈vB tv∨w.heap.size<=b):
 MMem lo (w4.setCell ⟨M,13,none⟩ tv') M Pb {st with text:=t'} cs ds cv sv kv dv tv'∧AG (mB M cv sv dv tv) w (w4.setCell ⟨M,13,none⟩ tv')∧∀b∈mB M cv sv dv tv',b∈mB M cv sv dv tv∨w.heap.size<=b:=by
 have hrg:=h.rg;have eB:∀v,mB M cv sv dv v=(M::(vB cv++(vB sv++vB dv)))++(vB v++[]):=λv=>by simp[mB]
 have hnd:((M::(vB cv++(vB sv++vB dv)))++(vB tv++[])).Nodup:=by rw[<-eB];exact h.nd
 have hnd':((M::(vB cv++(vB sv++vB dv)))++(vB tv'++[])).Nodup:=nd_swap hnd (vB_nd _) hv λb hb=>(hrg b (by rw[eB];exact hb)).2;have hd:=List.nodup_append.1 hnd;have hnT:∀b,b∈(M::(vB cv++(vB sv++vB dv)))->b∉vB tv:=λb hb hm=>hd.2.2 b hb b (List.mem_append_left _ hm) rfl;have hMn:∀b,b∈vB cv++(vB sv++vB dv)∨b∈vB tv'->b≠M:=λb hb e=>by
  rw[List.cons_append]at hnd';refine(List.nodup_cons.1 hnd').1 (e▸?_);rcases hb with h|h
  ·exact List.mem_append_left _ h
  ·exact List.mem_append_right _ (List.mem_append_left _ h)
 have hz:=hA.size;have hblk:∀b,b<w.heap.size->b∉vB tv->b≠M->(w4.setCell ⟨M,13,none⟩ tv').heap[b]?=w.heap[b]?:=λb h1 h2 h3=>by rw[Below.heap_setCell _ _ _ _ h3];exact hA.block b h1 h2
 have hin:∀b,b∈vB cv++(vB sv++vB dv)->b∈mB M cv sv dv tv:=λb hb=>by rw[eB];exact List.mem_append_left _ (List.mem_cons_of_mem _ hb)
 have hfr:∀v,(∀b∈vB v,b∈vB cv++(vB sv++vB dv))->Fr (vB v) w (w4.setCell ⟨M,13,none⟩ tv'):=λv hv b hb=>hblk b (hrg b (hin b (hv b hb))).2 (hnT b (List.mem_cons_of_mem _ (hv b hb))) (hMn b (Or.inl (hv b hb)));have hTin:∀b,b∈vB tv->b∈mB M cv sv dv tv:=λb hb=>by rw[eB];exact List.mem_append_right _ (List.mem_append_left _ hb)
 have hAG:AG (mB M cv sv dv tv) w (w4.setCell ⟨M,13,none⟩ tv'):=AG.set ⟨hA.os,hA.tape,hA.output,hA.size,λk hk hX=>hA.block k hk λhm=>hX (hTin k hm)⟩ (Or.inl (List.mem_cons_self ..)) _;have hlow:Below lo w (w4.setCell ⟨M,13,none⟩ tv'):=hAG.low (λb hb=>(hrg b hb).1) h.lz;have hm4:FBL w4 M (mL Pb cv sv kv dv tv st):=h.m.of_block (hA.block M h.m.lt (hnT M (List.mem_cons_self ..))) hz;have hnew:∀b∈mB M cv sv dv tv',b∈mB M cv sv dv tv∨w.heap.size<=b:=λb hb=>by
  rw[eB]at hb;rcases List.mem_append.1 hb with hb|hb
  ·exact Or.inl (by rw[eB];exact List.mem_append_left _ hb)
  ·rw[List.append_nil]at hb;exact(hv b hb).imp (hTin b) id
 refine⟨⟨hm4.set (i:=13) (by simp[mL]) tv',row_fr h.cl (hfr cv λb hb=>List.mem_append_left _ hb),λx hx=>(h.fl x hx).fr λb ⟨g1,g2⟩ hbl=>⟨⟨g1,λhm=>?_⟩,hblk b hbl (λhm=>g2 (hTin b hm)) (λe=>g2 (e▸List.mem_cons_self ..))⟩,row_fr h.sk (hfr sv λb hb=>List.mem_append_right _ (List.mem_append_left _ hb)),row_fr h.dp (hfr dv λb hb=>List.mem_append_right _ (List.mem_append_right _ hb)),λx hx=>(h.dc x hx).fr hlow,h.cd.fr hlow,?_,h.hcs,h.hds,by rw[eB];exact hnd',h.ml⟩,hAG,hnew⟩
 ·rcases hnew b hm with h1|h1
  ·exact g2 h1
  ·omega
 ·exact row_fr hown λb hb=>Below.heap_setCell _ _ _ _ (hMn b (Or.inr hb))
end
theorem Tryz.byteJ:(Tryz.prog.info? 5).map (λi=>(i.zero,i.size,i.bytes))=some (some (.int .u8 0),1,1):=by kernel_rfl
def sayB(s:ByteArray)(st:MSt):Bool:=decide (st.text.length+s.size<=2000)
def sayS(s:ByteArray)(st:MSt):MSt:=if sayB s st then {st with text:=st.text++s.data.toList} else stopS 8 st
theorem btC_app(l m:List UInt8):btC (l++m)=btC l++btC m:=by simp[btC]
theorem say_any{lo:Nat}{w:World}{M Pb:Nat}{st:MSt}{B:List Nat}(s:ByteArray)(h:MM lo w M Pb st B)(hs:s.size<=1000000)(htl:st.text.length<=2000):
 Calls Tryz.prog 59 #[.pointer (some ⟨M,0,none⟩),.string s] w λe w'=>MRes lo M Pb B w (sayS s st) (.bool (sayB s st)) e w':=by
 obtain⟨ii,hii,hij⟩:=Option.map_eq_some_iff.1 Tryz.byteJ;simp only[Prod.mk.injEq]at hij;obtain⟨hi0,hi1,hi2⟩:=hij;have HS:=hid (stop_any 8 h);obtain⟨cs,ds,cv,sv,kv,dv,tv,h,rfl⟩:=h;obtain⟨tp,tc,rfl⟩:=row_slice h.tx;have e13:=h.m.at 13 rfl;by_cases hc:st.text.length+s.size<=2000
 ·have HB:Hid (sayB s st=true):=by show _=_;unfold sayB;simpa using hc
  have HSS:Hid (sayS s st={st with text:=st.text++s.data.toList}):=by show _=_;unfold sayS;rw[HB.out];rfl
  have i0:¬(2000:Int)<(st.text.length:Int)+(s.size:Int):=by omega
  have HNX:Hid (∀w2 v',w2.ownsRow lo 5 1 v' (st.text.length+s.size) (btC st.text++strCells s)->w.grownBy w2 (Value.slice tp st.text.length tc).ownBlock->(∀b,v'.ownBlock=some b->(Value.slice tp st.text.length tc).ownBlock=some b∨w.heap.size<=b)->(w2.cell? ⟨M,13,none⟩=some (.slice tp st.text.length tc)∧w2.frozen? ⟨M,13,none⟩=false)∧(∃p n c,v'=.slice p n c)∧MRes lo M Pb (mB M cv sv dv (.slice tp st.text.length tc)) w (sayS s st) (.bool true) (.returned (.bool true)) (w2.setCell ⟨M,13,none⟩ v')):=by
   intro w2 v' hown hg hat;have hA:=AG.append (v:=.slice tp st.text.length tc) (Below.refl _ w) hg;have hnM:M∉vB (.slice tp st.text.length tc):=λhm=>(List.nodup_cons.1 h.nd).1 (List.mem_append_right _ (List.mem_append_right _ (List.mem_append_right _ hm)));have hbM:=hA.block M h.m.lt hnM;obtain⟨t1,t2,t3⟩:=h.turnT hA (tv':=v') (t':=st.text++s.data.toList) (by
    rw[List.length_append,btC_app];have e1:s.data.toList.length=s.size:=by simp
    rw[e1];exact hown) (λb hb=>(hat b (mem_vB.1 hb)).imp (λe=>mem_vB.2 e) id)
   obtain⟨p2,c2,e2⟩:=row_slice hown;exact⟨⟨cell_same hbM e13,by rw[World.frozen?_of_block (a:=⟨M,13,none⟩) hbM];exact h.m.fz 13⟩,⟨_,_,_,e2⟩,rfl,t2,_,⟨cs,ds,cv,sv,kv,dv,_,by rw[HSS.out];exact t1,rfl⟩,t3⟩
  have HOW:=hid h.tx;have hlz:=h.lz;clear h HS;go_enter Tryz.func59,Tryz.ntmps59;go_wp2_with (first
   |(at_builtin;refine wpApp_str rfl (.tmp 20) (.tmp 21) 108 9 rfl lo 5 ii Tryz.underlying108 Tryz.underlying9 hii hi0 hi1 hi2 (.slice tp st.text.length tc) st.text.length (btC st.text) rfl HOW.out s rfl (by unfold maxLen;omega) (by omega) hlz ?_;intro v' w7 hown hgrow hat;obtain⟨⟨k7,f7⟩,⟨p2,n2,c2,rfl⟩,hri⟩:=HNX.out _ _ hown hgrow hat;have HRI:=hid hri;clear hown hgrow hat hri))
  go_ret;rw[HB.out];exact HRI.out
 ·have HB:Hid (sayB s st=false):=by show _=_;unfold sayB;simpa using hc
  have HSS:Hid (sayS s st=stopS 8 st):=by show _=_;unfold sayS;rw[HB.out];rfl
  have i0:(2000:Int)<(st.text.length:Int)+(s.size:Int):=by omega
  clear h;go_enter Tryz.func59,Tryz.ntmps59;go_wp2_with (first
   |(go_at_call 82;refine HS.out.mono ?_;intro e w2 hr;obtain⟨rfl,-⟩:=id hr;have HR:=hid hr;clear hr))
  go_ret;rw[HSS.out,HB.out];exact HR.out.of (AG.refl _ _) (λb hb=>Or.inl hb) rfl
end Go.Proofs.YtlccndplhfcknaaGreatDoor
namespace Go.Proofs.YtlccndplhfcknaaGreatDoor
open Go.RowKit Go.Sort
section
variable {lo:Nat} {w w4:World} {M Pb:Nat} {st:MSt} {cs:List (MCl×Value)} {ds:List (MFr×Value)} {cv sv kv dv tv:Value}
theorem MMem.rowS(h:MMem lo w M Pb st cs ds cv sv kv dv tv)(hA:AG (vB sv) w w4){s':List Int}(hown:w4.ownsRow lo 98 1 sv s'.length (rfC s')):MMem lo w4 M Pb {st with stack:=s'} cs ds cv sv kv dv tv∧AG (mB M cv sv dv tv) w w4:=by
 have hrg:=h.rg;have hnd:((M::vB cv)++(vB sv++(vB dv++vB tv))).Nodup:=h.nd;have hd:=List.nodup_append.1 hnd;have hd2:=List.nodup_append.1 hd.2.1;have hnS:∀b,b∈(M::vB cv)∨b∈vB dv++vB tv->b∉vB sv:=λb hb hm=>by
  rcases hb with hb|hb
  ·exact hd.2.2 b hb b (List.mem_append_left _ hm) rfl
  ·exact hd2.2.2 b hm b hb rfl
 have hAG:AG (mB M cv sv dv tv) w w4:=⟨hA.os,hA.tape,hA.output,hA.size,λk hk hX=>hA.block k hk λhm=>hX (List.mem_cons_of_mem _ (List.mem_append_right _ (List.mem_append_left _ hm)))⟩;have hlow:Below lo w w4:=hAG.low (λb hb=>(hrg b hb).1) h.lz;have hfr:∀v,(∀b∈vB v,b∈vB cv∨b∈vB dv++vB tv)->Fr (vB v) w w4:=λv hv b hb=>by
  rcases hv b hb with h1|h1
  ·exact hA.block b (hrg b (List.mem_cons_of_mem _ (List.mem_append_left _ h1))).2 (hnS b (Or.inl (List.mem_cons_of_mem _ h1)))
  ·exact hA.block b (hrg b (List.mem_cons_of_mem _ (List.mem_append_right _ (List.mem_append_right _ h1)))).2 (hnS b (Or.inr h1))
 exact⟨⟨h.m.of_block (hA.block M h.m.lt (hnS M (Or.inl (List.mem_cons_self ..)))) hA.size,row_fr h.cl (hfr cv λb hb=>Or.inl hb),λx hx=>(h.fl x hx).fr λb ⟨g1,g2⟩ hbl=>⟨⟨g1,g2⟩,hA.block b hbl λhm=>g2 (List.mem_cons_of_mem _ (List.mem_append_right _ (List.mem_append_left _ hm)))⟩,hown,row_fr h.dp (hfr dv λb hb=>Or.inr (List.mem_append_left _ hb)),λx hx=>(h.dc x hx).fr hlow,h.cd.fr hlow,row_fr h.tx (hfr tv λb hb=>Or.inr (List.mem_append_right _ hb)),h.hcs,h.hds,h.nd,h.ml⟩,hAG⟩
theorem MMem.rowC(h:MMem lo w M Pb st cs ds cv sv kv dv tv)(hA:AG (vB cv) w w4){cs':List (MCl×Value)}(hown:w4.ownsRow lo 144 5 cv cs'.length (cs'.flatMap mcC))(hfl:∀x∈cs',FldX (λb=>lo<=b∧b∉mB M cv sv dv tv) w x.2 x.1.fields):MMem lo w4 M Pb {st with cells:=cs'.map (·.1)} cs' ds cv sv kv dv tv∧AG (mB M cv sv dv tv) w w4:=by
 have hrg:=h.rg;have hnd:([M]++(vB cv++(vB sv++(vB dv++vB tv)))).Nodup:=h.nd;have hd:=List.nodup_append.1 hnd;have hd2:=List.nodup_append.1 hd.2.1;have hnC:∀b,b=M∨b∈vB sv++(vB dv++vB tv)->b∉vB cv:=λb hb hm=>by
  rcases hb with hb|hb
  ·exact hd.2.2 b (List.mem_singleton.2 hb) b (List.mem_append_left _ hm) rfl
  ·exact hd2.2.2 b hm b hb rfl
 have hAG:AG (mB M cv sv dv tv) w w4:=⟨hA.os,hA.tape,hA.output,hA.size,λk hk hX=>hA.block k hk λhm=>hX (List.mem_cons_of_mem _ (List.mem_append_left _ hm))⟩;have hlow:Below lo w w4:=hAG.low (λb hb=>(hrg b hb).1) h.lz;have hfr:∀v,(∀b∈vB v,b∈vB sv++(vB dv++vB tv))->Fr (vB v) w w4:=λv hv b hb=>hA.block b (hrg b (List.mem_cons_of_mem _ (List.mem_append_right _ (hv b hb)))).2 (hnC b (Or.inr (hv b hb)));exact⟨⟨h.m.of_block (hA.block M h.m.lt (hnC M (Or.inl rfl))) hA.size,hown,λx hx=>(hfl x hx).fr λb ⟨g1,g2⟩ hbl=>⟨⟨g1,g2⟩,hA.block b hbl λhm=>g2 (List.mem_cons_of_mem _ (List.mem_append_left _ hm))⟩,row_fr h.sk (hfr sv λb hb=>List.mem_append_left _ hb),row_fr h.dp (hfr dv λb hb=>List.mem_append_right _ (List.mem_append_left _ hb)),λx hx=>(h.dc x hx).fr hlow,h.cd.fr hlow,row_fr h.tx (hfr tv λb hb=>List.mem_append_right _ (List.mem_append_right _ hb)),rfl,h.hds,h.nd,h.ml⟩,hAG⟩
end
theorem AG.cell{w:World}{g j:Nat}{v:Value}(hg:v.ownBlock=some g)(u:Value):AG (vB v) w (w.setCell ⟨g,j,none⟩ u):=(AG.refl _ _).set (Or.inl (mem_vB.2 hg)) u
def setTopS(q:Int)(st:MSt):MSt:={st with stack:=st.stack.dropLast++[q]}
theorem rfC_setLast(s:List Int)(x q:Int):(rfC (s++[x])).set s.length (.int .i32 q)=rfC (s++[q]):=by
 unfold rfC;rw[List.map_append,List.map_append];simp
theorem MMem.cellAt{lo:Nat}{w:World}{M Pb:Nat}{st:MSt}{cs:List (MCl×Value)}{ds:List (MFr×Value)}{cv sv kv dv tv:Value}(h:MMem lo w M Pb st cs ds cv sv kv dv tv){r:Nat}(hr:r<st.cells.length):∃g c fp fn fc,cv=.slice (some ⟨g,0,none⟩) st.cells.length c∧w.cell? ⟨g,r*5,none⟩=some (.int .u8 st.cells[r].kind)∧w.cell? ⟨g,r*5+1,none⟩=some (.int .i64 st.cells[r].n)∧w.cell? ⟨g,r*5+2,none⟩=some (.int .i32 st.cells[r].left)∧w.cell? ⟨g,r*5+3,none⟩=some (.int .i32 st.cells[r].right)∧w.cell? ⟨g,r*5+4,none⟩=some (.slice fp fn fc)∧FldX (λ_=>True) w (.slice fp fn fc) st.cells[r].fields:=by
 have hl:cs.length=st.cells.length:=by rw[<-h.hcs,List.length_map]
 have hr':r<cs.length:=by omega
 have e:st.cells[r]=cs[r].1:=by simp[<-h.hcs]
 have hf:=h.fl cs[r] (List.getElem_mem _);obtain⟨fp,fc,hfe,-⟩:=id hf;rcases h.cl.2 with⟨-,h0⟩|⟨g,cap,cur,hv,-⟩
 ·omega
 ·have hown:=h.cl;subst hv;have hx:∀j,j<5->(cs.flatMap mcC)[r*5+j]?=(mcC cs[r])[j]?:=λj hj=>by
   have:∀(l:List (MCl×Value)) (r:Nat) (hr:r<l.length),(l.flatMap mcC)[r*5+j]?=(mcC l[r])[j]?:=by
    intro l;induction l with
    |nil=>intro r hr;simp at hr
    |cons x l ih=>
     intro r hr;rw[List.flatMap_cons];cases r with
     |zero=>rw[List.getElem?_append_left (by simp[mcC];omega)];simp
     |succ r=>
      rw[List.getElem?_append_right (by simp[mcC];omega),show(r+1)*5+j-(mcC x).length=r*5+j by simp[mcC];omega];simpa using ih r (by simpa using hr)
   exact this cs r hr'
  refine⟨g,cap,fp,cs[r].1.fields.length,fc,by rw[hl],?_,?_,?_,?_,?_,?_⟩
  ·rw[hown.cellAt _ (by omega),show r*5=r*5+0 by rfl,hx 0 (by omega),e];rfl
  ·rw[hown.cellAt _ (by omega),hx 1 (by omega),e];rfl
  ·rw[hown.cellAt _ (by omega),hx 2 (by omega),e];rfl
  ·rw[hown.cellAt _ (by omega),hx 3 (by omega),e];rfl
  ·rw[hown.cellAt _ (by omega),hx 4 (by omega)];exact congrArg some hfe
  ·rw[e,<-hfe];exact hf.fr λ_ _ _=>⟨trivial,rfl⟩
end Go.Proofs.YtlccndplhfcknaaGreatDoor
