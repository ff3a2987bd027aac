import Derived.Test.YtcpcplaeaimmpaaGreatDoorPzFS
import Derived.Laws.OwnMore
import Derived.Deep.Upon
import Derived.Test.YtcpcplaeaimmpaaGreatDoorLk0S
set_option maxRecDepth 100000
set_option maxHeartbeats 8000000
namespace Go.Proofs.YtcpcplaeaimmpaaGreatDoor
open Go.RowKit Go.Sort
def ExAt(w:World)(v:Value)(es:List (TypeId×Value)):Prop:=∃p c,v=.slice p es.length c∧(es≠[]->∃g o,p=some ⟨g,o,none⟩∧∀i (hi:i<es.length),w.cell? ⟨g,o+i,none⟩=some (.iface es[i].1 es[i].2))
theorem ExAt.keep{w w':World}{v:Value}{es:List (TypeId×Value)}(h:ExAt w v es)(hb:Below w.heap.size w w'):ExAt w' v es:=by
 obtain⟨p,c,rfl,hc⟩:=h;refine⟨p,c,rfl,λhl=>?_⟩;obtain⟨g,o,rfl,hx⟩:=hc hl;exact⟨g,o,rfl,λi hi=>cell_keep hb (hx i hi)⟩
def ptC2(x:Value×Value):List Value:=[x.1,x.2]
abbrev RowP(w:World)(lo:Nat)(v:Value)(l:List (Value×Value)):Prop:=RowS ptC2 (λ_=>[]) (λ_ _=>True) 186 2 w lo v l
theorem okP:OkFr (α:=Value×Value) (λ_=>[]) (λ_ _=>True):=λ_ _ _ _ _ _=>trivial
theorem Tryz.partI:(Tryz.prog.info? 186).map (λi=>(i.zero,i.size,i.bytes))=some (some (.agg #[.nilIface,.slice none 0 0]),2,40):=by kernel_rfl
def bareL(es:List (TypeId×Value)):List (Value×Value):=es.map λe=>(.iface e.1 e.2,.slice none 0 0)
structure BareSt (es:List (TypeId×Value)) (w wr:World) (k:Nat) (vp:Option Addr) (vc:Nat):Prop where
 le:k<=es.length
 row:RowP wr w.heap.size (.slice vp k vc) (bareL (es.take k))
 low:Below w.heap.size w wr
theorem BareSt.next{es:List (TypeId×Value)}{w wr w2:World}{k:Nat}{vp:Option Addr}{vc:Nat}{ob:Obj}(h:BareSt es w wr k vp vc)(hk:k<es.length)
 (hgr:(wr.alloc ob).grownBy w2 (Value.slice vp k vc).ownBlock) {g c:Nat} (hat:(Value.slice vp k vc).ownBlock=some g∨g=(wr.alloc ob).heap.size) (hlt:g<w2.heap.size)
 (hown:w2.ownsRow 0 186 2 (.slice (some ⟨g,0,none⟩) (k+1) c) (k+1) ((bareL (es.take k)).flatMap ptC2++[.iface es[k].1 es[k].2,.slice none 0 0])):BareSt es w w2 (k+1) (some ⟨g,0,none⟩) c:=by
 have hlo:w.heap.size<=wr.heap.size:=h.low.size;have hl:(bareL (es.take k)).length=k:=by unfold bareL;rw[List.length_map,List.length_take];omega
 have e:bareL (es.take (k+1))=bareL (es.take k)++[(.iface es[k].1 es[k].2,.slice none 0 0)]:=by
  unfold bareL;rw[List.take_succ_eq_append_getElem hk,List.map_append];rfl
 refine⟨by omega,?_,below_push h.low hlo (λb hb=>(h.row.rg b (List.mem_append_left _ (mem_vB.2 hb))).1) hgr⟩;rw[e];have:=h.row.pushN okP hlo trivial hgr hat hlt (x:=(.iface es[k].1 es[k].2,.slice none 0 0)) (c:=c) (by rw[hl];exact hown);rw[hl]at this;exact this
theorem bare_any(es:List (TypeId×Value))(v:Value)(w:World)(h:ExAt w v es)(hl:es.length<=100000):Calls Tryz.prog 337 #[v] w λe w'=>Below w.heap.size w w'∧∃v',e=.returned v'∧RowP w' w.heap.size v' (bareL es):=by
 obtain⟨p,c,rfl,hc⟩:=h;have HC:=hid hc;obtain⟨ii,hii,hij⟩:=Option.map_eq_some_iff.1 Tryz.partI;simp only[Prod.mk.injEq]at hij;obtain⟨hi0,hi1,hi2⟩:=hij;have HR0:Hid (BareSt es w w 0 none 0):=⟨Nat.zero_le _,RowS.nil _ _,Below.refl _ _⟩;clear hc;go_enter Tryz.func337,Tryz.ntmps337;go_wp2;go_loopw [3,8] (λlv kv wr=>∃(k:Nat) (vp:Option Addr) (vc:Nat),k<=es.length∧lv=.slice vp k vc∧kv=.int .i64 (k:Int)∧Hid (BareSt es w wr k vp vc)) (λ_ kv _=>es.length-(intOf kv).toNat)
 case atStart=>exact⟨0,none,0,Nat.zero_le _,rfl,rfl,HR0.out⟩
 case round=>
  clear HR0;obtain⟨k,vp,vc,hk,rfl,rfl,HS⟩:=hrel;rename World=>wr
  by_cases hlt:k<es.length
  ·have h0:(0:Int)<=(k:Int):=by omega
   have h1:(k:Int)<(es.length:Int):=by omega
   have hne:es≠[]:=λe=>by rw[e]at hlt;simp at hlt
   obtain⟨g,o,rfl,hx⟩:=HC.out hne;have c0:=cell_keep HS.out.low (hx k hlt);have HK:=hid (λw2 ob=>HS.out.next (w2:=w2) (ob:=ob) hlt);have hbl:(bareL (es.take k)).length=k:=by unfold bareL;rw[List.length_map,List.length_take];omega
   have HOWN:Hid (wr.ownsRow 0 186 2 (.slice vp k vc) k ((bareL (es.take k)).flatMap ptC2)):=by
    have:=HS.out.row.own;rw[hbl]at this;exact this
   obtain⟨et,ex,hek⟩:∃a b,es[k]=(a,b):=⟨_,_,rfl⟩;rw[hek]at c0 HK;clear hx hek hbl;generalize (bareL (es.take k)).flatMap ptC2=XS at*;go_wp2_with (first
    |(at_builtin;refine wpList_append_lies _ rfl (.tmp 12) (.tmp 15) 299 rfl 0 186 ii _ 2 40 Tryz.underlying299 hii hi0 hi1 hi2 rfl (by omega) (.slice vp k vc) k XS rfl (HOWN.out.alloc _) ⟨wr.heap.size,0,none⟩ 1 1 [.iface et ex,.slice none 0 0] rfl rfl (by simpa using World.news_of_block (heap_alloc_new wr (Obj.cells #[.iface et ex,.slice none 0 0] 186))) (by intro u hu;simp at hu;rcases hu with rfl|rfl<;>rfl) (by omega) (by unfold maxLen;omega) (by omega) (Nat.zero_le _) _ rfl ?_;intro g1 k1 w7 hown hgrow hat hlt1;have HNX:=hid (HK.out _ _ hgrow hat hlt1 hown);clear hown hgrow hat hlt1))
   exact⟨⟨k+1,_,_,by omega,rfl,by go_num,HNX.out⟩,by simp[intOf];omega⟩
  ·obtain rfl:k=es.length:=by omega
   have hge:¬(es.length:Int)<(es.length:Int):=by omega
   go_wp2;go_ret;have hrow:=HS.out.row;rw[List.take_length]at hrow;exact⟨HS.out.low,_,rfl,hrow⟩
abbrev LkT:=Option (Nat×Nat)
def noteP(st:LkT)(k a:Nat):LkT:=match st with|none=>some (k,a)|some (k',a')=>if a<a' then some (k,a) else some (k',a')
def noteKd(adr:Nat->Addr):LkT->Value
 |none=>.nilIface
 |some (k,_)=>.iface 447 (.pointer (some (adr k)))
def noteAt:LkT->Int
 |none=>0
 |some (_,a)=>(a:Int)
structure LS (w:World) (K:Nat) (gv:Value) (adr:Nat->Addr) (st:LkT):Prop where
 c0:w.cell? ⟨K,0,none⟩=some gv
 c1:w.cell? ⟨K,1,none⟩=some (noteKd adr st)
 c2:w.cell? ⟨K,2,none⟩=some (.int .i64 (noteAt st))
 f:∀j,w.frozen? ⟨K,j,none⟩=false
section
variable {w w':World} {K:Nat} {gv:Value} {adr:Nat->Addr} {st:LkT}
theorem LS.lt(h:LS w K gv adr st):K<w.heap.size:=block_lt_of_cell h.c0
theorem LS.of_block(h:LS w K gv adr st)(e:w'.heap[K]?=w.heap[K]?):LS w' K gv adr st:=by
 have hc:∀j,w'.cell? ⟨K,j,none⟩=w.cell? ⟨K,j,none⟩:=λj=>World.cell?_of_block (a:=⟨K,j,none⟩) e;exact⟨by rw[hc];exact h.c0,by rw[hc];exact h.c1,by rw[hc];exact h.c2,λj=>by rw[World.frozen?_of_block (a:=⟨K,j,none⟩) e];exact h.f j⟩
theorem LS.below(h:LS w K gv adr st)(hb:Below w.heap.size w w'):LS w' K gv adr st:=h.of_block (hb.block K h.lt)
theorem LS.put(h:LS w K gv adr st)(k a:Nat):LS ((w.setCell ⟨K,1,none⟩ (.iface 447 (.pointer (some (adr k))))).setCell ⟨K,2,none⟩ (.int .i64 (a:Int))) K gv adr (some (k,a)):=by
 have e2:(w.setCell ⟨K,1,none⟩ (.iface 447 (.pointer (some (adr k))))).cell? ⟨K,2,none⟩=some (.int .i64 (noteAt st)):=by rw[World.cell?_setCell_other _ _ _ _ (off_ne (by omega))];exact h.c2
 refine⟨?_,?_,World.cell?_setCell_same _ _ _ e2,λj=>by rw[World.frozen?_setCell,World.frozen?_setCell];exact h.f j⟩
 ·rw[World.cell?_setCell_other _ _ _ _ (off_ne (by omega)),World.cell?_setCell_other _ _ _ _ (off_ne (by omega))];exact h.c0
 ·rw[World.cell?_setCell_other _ _ _ _ (off_ne (by omega))];exact World.cell?_setCell_same _ _ _ h.c1
end
theorem note_any{w:World}{K:Nat}{gv:Value}{adr:Nat->Addr}{st:LkT}(k a:Nat)(h:LS w K gv adr st):
 Calls Tryz.prog 113 #[.pointer (some ⟨K,0,none⟩),.iface 447 (.pointer (some (adr k))),.int .i64 (a:Int)] w λe w'=>e=.returned (.tuple #[])∧EF K w w'∧LS w' K gv adr (noteP st k a):=by
 have HL:=hid h;obtain⟨c0,c1,c2,f⟩:=h;have f1:=f 1;have f2:=f 2;clear f;match st,HL with
 |none,HL=>
  simp only[noteKd,noteAt]at c1 c2;go_enter Tryz.func113,Tryz.ntmps113;go_wp2;refine bE ?_;exact⟨rfl,((EF.refl _ _).set _).set _,HL.out.put k a⟩
 |some (k',a'),HL=>
  simp only[noteKd,noteAt]at c1 c2;by_cases hlt:a<a'
  ·have i1:(a:Int)<(a':Int):=by omega
   have HN:Hid (noteP (some (k',a')) k a=some (k,a)):=by show _=_;unfold noteP;simp only;rw[if_pos hlt]
   go_enter Tryz.func113,Tryz.ntmps113;go_wp2;refine bE ?_;exact⟨rfl,((EF.refl _ _).set _).set _,by rw[HN.out];exact HL.out.put k a⟩
  ·have i1:¬(a:Int)<(a':Int):=by omega
   have HN:Hid (noteP (some (k',a')) k a=some (k',a')):=by show _=_;unfold noteP;simp only;rw[if_neg hlt]
   go_enter Tryz.func113,Tryz.ntmps113;go_wp2;refine bE ?_;exact⟨rfl,EF.refl _ _,by rw[HN.out];exact HL.out⟩
structure V5 (w:World) (b:Nat) (x0 x1 x2 x3 x4:Value):Prop where
 c0:w.cell? ⟨b,0,none⟩=some x0
 c1:w.cell? ⟨b,1,none⟩=some x1
 c2:w.cell? ⟨b,2,none⟩=some x2
 c3:w.cell? ⟨b,3,none⟩=some x3
 c4:w.cell? ⟨b,4,none⟩=some x4
 f:∀j,w.frozen? ⟨b,j,none⟩=false
section
variable {w w':World} {b:Nat} {x0 x1 x2 x3 x4:Value}
theorem V5.lt(h:V5 w b x0 x1 x2 x3 x4):b<w.heap.size:=block_lt_of_cell h.c0
theorem V5.of_block(h:V5 w b x0 x1 x2 x3 x4)(e:w'.heap[b]?=w.heap[b]?):V5 w' b x0 x1 x2 x3 x4:=by
 have hc:∀j,w'.cell? ⟨b,j,none⟩=w.cell? ⟨b,j,none⟩:=λj=>World.cell?_of_block (a:=⟨b,j,none⟩) e;exact⟨by rw[hc];exact h.c0,by rw[hc];exact h.c1,by rw[hc];exact h.c2,by rw[hc];exact h.c3,by rw[hc];exact h.c4,λj=>by rw[World.frozen?_of_block (a:=⟨b,j,none⟩) e];exact h.f j⟩
theorem V5.keep(h:V5 w b x0 x1 x2 x3 x4)(hb:Below w.heap.size w w'):V5 w' b x0 x1 x2 x3 x4:=h.of_block (hb.block b h.lt)
theorem V5.set2(h:V5 w b x0 x1 x2 x3 x4)(u:Value):V5 (w.setCell ⟨b,2,none⟩ u) b x0 x1 u x3 x4:=by
 have ho:∀j,j≠2->(w.setCell ⟨b,2,none⟩ u).cell? ⟨b,j,none⟩=w.cell? ⟨b,j,none⟩:=λj hj=>World.cell?_setCell_other _ _ _ _ (off_ne (Ne.symm hj));exact⟨by rw[ho _ (by omega)];exact h.c0,by rw[ho _ (by omega)];exact h.c1,World.cell?_setCell_same _ _ _ h.c2,by rw[ho _ (by omega)];exact h.c3,by rw[ho _ (by omega)];exact h.c4,λj=>by rw[World.frozen?_setCell];exact h.f j⟩
theorem V5.set3(h:V5 w b x0 x1 x2 x3 x4)(u:Value):V5 (w.setCell ⟨b,3,none⟩ u) b x0 x1 x2 u x4:=by
 have ho:∀j,j≠3->(w.setCell ⟨b,3,none⟩ u).cell? ⟨b,j,none⟩=w.cell? ⟨b,j,none⟩:=λj hj=>World.cell?_setCell_other _ _ _ _ (off_ne (Ne.symm hj));exact⟨by rw[ho _ (by omega)];exact h.c0,by rw[ho _ (by omega)];exact h.c1,by rw[ho _ (by omega)];exact h.c2,World.cell?_setCell_same _ _ _ h.c3,by rw[ho _ (by omega)];exact h.c4,λj=>by rw[World.frozen?_setCell];exact h.f j⟩
end
abbrev TT:=ByteArray×(Value×List ByteArray)×PT
def strC(x:ByteArray):List Value:=[.string x]
def locC(x:ByteArray×Int):List Value:=[.string x.1,.int .i64 x.2]
def ttC(x:TT):List Value:=[.string x.1,x.2.1.1,x.2.2.1]
def ttS(x:TT):List Nat:=vB x.2.1.1
abbrev StrsO(w:World)(lo:Nat)(v:Value)(l:List ByteArray):Prop:=RowS strC (λ_=>[]) (λ_ _=>True) 9 1 w lo v l
abbrev LocsO(w:World)(lo:Nat)(v:Value)(l:List (ByteArray×Int)):Prop:=RowS locC (λ_=>[]) (λ_ _=>True) 309 2 w lo v l
def okTT(w:World)(x:TT):Prop:=StrsO w 0 x.2.1.1 x.2.1.2
theorem okStr:OkFr (α:=ByteArray) (λ_=>[]) (λ_ _=>True):=λ_ _ _ _ _ _=>trivial
theorem okLoc:OkFr (α:=ByteArray×Int) (λ_=>[]) (λ_ _=>True):=λ_ _ _ _ _ _=>trivial
theorem okTd:OkFr ttS okTT:=λ_ _ _ h hs hf=>h.fr okStr hs (hf.sub λb hb=>by
 rcases List.mem_append.1 hb with h1|h1
 ·exact h1
 ·simp at h1)
abbrev TodoO(w:World)(lo:Nat)(v:Value)(l:List TT):Prop:=RowS ttC ttS okTT 228 3 w lo v l
def TdO(w:World)(lo:Nat)(v:Value)(l:List TT):Prop:=TodoO w lo v l∨(l=[]∧(∃p c,v=.slice p 0 c)∧∀b∈vB v,lo<=b∧b<w.heap.size)
theorem TdO.rg{w:World}{lo:Nat}{v:Value}{l:List TT}(h:TdO w lo v l):∀b∈rowB ttS v l,lo<=b∧b<w.heap.size:=by
 rcases h with h|⟨rfl,-,h⟩
 ·exact h.rg
 ·intro b hb;rcases List.mem_append.1 hb with h1|h1
  ·exact h b h1
  ·simp at h1
theorem TdO.fr{w w':World}{lo:Nat}{v:Value}{l:List TT}(h:TdO w lo v l)(hk:OkFr ttS okTT)(hz:w.heap.size<=w'.heap.size)(hf:Fr (rowB ttS v l) w w'):TdO w' lo v l:=by
 rcases h with h|⟨h1,h2,h⟩
 ·exact Or.inl (h.fr hk hz hf)
 ·exact Or.inr ⟨h1,h2,λb hb=>⟨(h b hb).1,Nat.lt_of_lt_of_le (h b hb).2 hz⟩⟩
theorem TdO.nil{w:World}{lo:Nat}{v:Value}(h:TdO w lo v []):∃p c,v=.slice p 0 c:=by
 rcases h with h|⟨-,h,-⟩
 ·exact h.slice
 ·exact h
def ttT(x:TT):CTask:=(x.1,x.2.1.2,x.2.2.2.1)
def cmB(K U:Nat)(cv:Value)(cs:InsL)(lv kv tv:Value)(ts:List TT):List Nat:=K::U::(rowB insSub cv cs++(vB lv++(vB kv++rowB ttS tv ts)))
structure CMem (lo:Nat) (w:World) (K U:Nat) (nm:ByteArray) (st:CSt) (cs:InsL) (ts:List TT) (cv lv kv tv gv:Value):Prop where
 k:V5 w K (.pointer (some ⟨U,0,none⟩)) (.string nm) cv (.int .i64 st.dep) lv
 u:V3 w U kv tv gv
 code:CodeO w lo cv cs
 loc:LocsO w lo lv st.loc
 kn:StrsO w lo kv st.kn
 td:TdO w lo tv ts
 hcs:cs.map (·.1)=st.code
 hts:ts.map ttT=st.td
 nd:(cmB K U cv cs lv kv tv ts).Nodup
 kl:lo<=K
 ul:lo<=U
section
variable {lo:Nat} {w w':World} {K U:Nat} {nm:ByteArray} {st:CSt} {cs:InsL} {ts:List TT} {cv lv kv tv gv:Value}
theorem CMem.rg(h:CMem lo w K U nm st cs ts cv lv kv tv gv):∀b∈cmB K U cv cs lv kv tv ts,lo<=b∧b<w.heap.size:=by
 intro b hb;rcases List.mem_cons.1 hb with rfl|hb
 ·exact⟨h.kl,h.k.lt⟩
 rcases List.mem_cons.1 hb with rfl|hb
 ·exact⟨h.ul,h.u.lt⟩
 rcases List.mem_append.1 hb with hb|hb
 ·exact h.code.rg b hb
 rcases List.mem_append.1 hb with hb|hb
 ·exact h.loc.rg b (List.mem_append_left _ hb)
 rcases List.mem_append.1 hb with hb|hb
 ·exact h.kn.rg b (List.mem_append_left _ hb)
 ·exact h.td.rg b hb
theorem rowB_plain{α:Type}{v:Value}{xs:List α}{b:Nat}(hb:b∈rowB (λ_:α=>([]:List Nat)) v xs):b∈vB v:=by
 rcases List.mem_append.1 hb with h|h
 ·exact h
 ·simp at h
theorem CMem.fr(h:CMem lo w K U nm st cs ts cv lv kv tv gv)(hz:w.heap.size<=w'.heap.size)(hf:Fr (cmB K U cv cs lv kv tv ts) w w'):CMem lo w' K U nm st cs ts cv lv kv tv gv:=by
 have m1:∀b∈rowB insSub cv cs,b∈cmB K U cv cs lv kv tv ts:=λb hb=>List.mem_cons_of_mem _ (List.mem_cons_of_mem _ (List.mem_append_left _ hb));have m2:∀b∈vB lv,b∈cmB K U cv cs lv kv tv ts:=λb hb=>List.mem_cons_of_mem _ (List.mem_cons_of_mem _ (List.mem_append_right _ (List.mem_append_left _ hb)));have m3:∀b∈vB kv,b∈cmB K U cv cs lv kv tv ts:=λb hb=>List.mem_cons_of_mem _ (List.mem_cons_of_mem _ (List.mem_append_right _ (List.mem_append_right _ (List.mem_append_left _ hb))));have m4:∀b∈rowB ttS tv ts,b∈cmB K U cv cs lv kv tv ts:=λb hb=>List.mem_cons_of_mem _ (List.mem_cons_of_mem _ (List.mem_append_right _ (List.mem_append_right _ (List.mem_append_right _ hb))));exact⟨h.k.of_block (hf K (List.mem_cons_self ..)),h.u.of_block (hf U (List.mem_cons_of_mem _ (List.mem_cons_self ..))),h.code.fr okIns hz (hf.sub m1),h.loc.fr okLoc hz (hf.sub λb hb=>m2 b (rowB_plain hb)),h.kn.fr okStr hz (hf.sub λb hb=>m3 b (rowB_plain hb)),h.td.fr okTd hz (hf.sub m4),h.hcs,h.hts,h.nd,h.kl,h.ul⟩
theorem nodup_swap{L1 A L2:List Nat}{g:Nat}(h:(L1++(A++L2)).Nodup)(hg:A=[g]∨(g∉L1∧g∉L2)):(L1++([g]++L2)).Nodup:=by
 rcases hg with rfl|⟨h1,h2⟩
 ·exact h
 ·obtain⟨n1,n2,n3⟩:=List.nodup_append.1 h;obtain⟨-,n4,-⟩:=List.nodup_append.1 n2;refine List.nodup_append.2 ⟨n1,List.nodup_cons.2 ⟨h2,n4⟩,λa ha b hb e=>?_⟩;rcases List.mem_cons.1 hb with rfl|hb
  ·exact h1 (e▸ha)
  ·exact n3 a ha b (List.mem_append_right _ hb) e
theorem vB_own{v:Value}{g:Nat}(h:v.ownBlock=some g):vB v=[g]:=by
 unfold vB;rw[h];rfl
theorem CMem.keep(h:CMem lo w K U nm st cs ts cv lv kv tv gv)(hb:Below w.heap.size w w'):CMem lo w' K U nm st cs ts cv lv kv tv gv:=h.fr hb.size λb hm=>hb.block b (h.rg b hm).2
end
section
variable {lo:Nat} {wr Z w4:World} {K U:Nat} {nm:ByteArray} {st:CSt} {cs:InsL} {ts:List TT} {cv lv kv tv gv:Value} {g c:Nat}
theorem CMem.pushC(h:CMem lo wr K U nm st cs ts cv lv kv tv gv){i:LIns}(hi:i.alts=[])(hb:Below wr.heap.size wr Z)(hg:Z.grownBy w4 cv.ownBlock)(hat:cv.ownBlock=some g∨g=Z.heap.size)(hlt:g<w4.heap.size)
 (hown:w4.ownsRow 0 89 3 (.slice (some ⟨g,0,none⟩) (cs.length+1) c) (cs.length+1) (cs.flatMap insC++insC (i,.slice none 0 0))):
 CMem lo (w4.setCell ⟨K,2,none⟩ (.slice (some ⟨g,0,none⟩) (cs.length+1) c)) K U nm {st with code:=st.code++[i]} (cs++[(i,.slice none 0 0)]) ts (.slice (some ⟨g,0,none⟩) (cs.length+1) c) lv kv tv gv:=by
 have hzb:=hb.size;have hz4:=hg.size;have hnd:=h.nd;have hrg:=h.rg;have hloZ:lo<=wr.heap.size:=Nat.le_trans h.kl (Nat.le_of_lt h.k.lt);have hsub:insSub (i,Value.slice none 0 0)=[]:=by unfold insSub;rw[hi];rfl
 have hok:insOk Z (i,Value.slice none 0 0):=by unfold insOk;rw[hi];exact RowS.nil _ _
 have hrow:CodeO w4 lo (.slice (some ⟨g,0,none⟩) (cs.length+1) c) (cs++[(i,.slice none 0 0)]):=
  h.code.push okIns hloZ (w1:=Z) (λb hb'=>hb.block b (h.code.rg b hb').2) hzb hok (λb hb'=>by rw[hsub]at hb';cases hb') (by rw[hsub];exact List.nodup_nil) hg rfl hat hlt hown
 have hL:cmB K U cv cs lv kv tv ts=[K,U]++(vB cv++(cs.flatMap insSub++(vB lv++(vB kv++rowB ttS tv ts)))):=by unfold cmB rowB;simp
 have hL':cmB K U (.slice (some ⟨g,0,none⟩) (cs.length+1) c) (cs++[(i,.slice none 0 0)]) lv kv tv ts=[K,U]++([g]++(cs.flatMap insSub++(vB lv++(vB kv++rowB ttS tv ts)))):=by
  unfold cmB rowB;rw[List.flatMap_append,List.flatMap_cons,List.flatMap_nil,hsub,vB_slice];simp
 rw[hL]at hnd hrg;have hnew:vB cv=[g]∨(g∉[K,U]∧g∉(cs.flatMap insSub++(vB lv++(vB kv++rowB ttS tv ts)))):=by
  rcases hat with h1|h1
  ·exact Or.inl (vB_own h1)
  ·right
   constructor
   ·intro hm;have:=(hrg g (List.mem_append_left _ hm)).2;omega
   ·intro hm;have:=(hrg g (List.mem_append_right _ (List.mem_append_right _ hm))).2;omega
 have hnd':=nodup_swap hnd hnew;obtain⟨nA,nB,nC⟩:=List.nodup_append.1 hnd;obtain⟨nD,nE,nF⟩:=List.nodup_append.1 nB;have hoff:∀b,(b∈[K,U]∨b∈(cs.flatMap insSub++(vB lv++(vB kv++rowB ttS tv ts))))->w4.heap[b]?=wr.heap[b]?:=by
  intro b hm;have hbl:b<wr.heap.size:=by
   rcases hm with hm|hm
   ·exact(hrg b (List.mem_append_left _ hm)).2
   ·exact(hrg b (List.mem_append_right _ (List.mem_append_right _ hm))).2
  rw[hg.block b (by omega) (λe=>?_)]
  ·exact hb.block b hbl
  ·have hcv:b∈vB cv:=mem_vB.2 e.symm;rcases hm with hm|hm
   ·exact nC b hm b (List.mem_append_left _ hcv) rfl
   ·exact nF b hcv b hm rfl
 have hK:K≠U:=by
  have h1:=(List.nodup_cons.1 nA).1;exact λe=>h1 (List.mem_singleton.2 e)
 have hsetn:∀b,b≠K->(w4.setCell ⟨K,2,none⟩ (.slice (some ⟨g,0,none⟩) (cs.length+1) c)).heap[b]?=w4.heap[b]?:=λb hb'=>Below.heap_setCell _ _ _ _ hb';have hnK:∀b,b∈([g]++(cs.flatMap insSub++(vB lv++(vB kv++rowB ttS tv ts))))->b≠K:=λb hm e=>(List.nodup_append.1 hnd').2.2 K (by simp) b hm e.symm;have hall:∀b,b∈(cs.flatMap insSub++(vB lv++(vB kv++rowB ttS tv ts)))->(w4.setCell ⟨K,2,none⟩ (.slice (some ⟨g,0,none⟩) (cs.length+1) c)).heap[b]?=wr.heap[b]?:=λb hm=>by
  rw[hsetn b (hnK b (List.mem_append_right _ hm))];exact hoff b (Or.inr hm)
 have hsz:wr.heap.size<=(w4.setCell ⟨K,2,none⟩ (.slice (some ⟨g,0,none⟩) (cs.length+1) c)).heap.size:=by simp;omega
 refine⟨(h.k.of_block (hoff K (Or.inl (by simp)))).set2 _,?_,?_,h.loc.fr okLoc hsz λb hb'=>hall b ?_,h.kn.fr okStr hsz λb hb'=>hall b ?_,h.td.fr okTd hsz λb hb'=>hall b ?_,by rw[List.map_append,h.hcs];rfl,h.hts,by rw[hL'];exact hnd',h.kl,h.ul⟩
 ·refine h.u.of_block ?_;rw[hsetn U (Ne.symm hK)];exact hoff U (Or.inl (by simp))
 ·refine hrow.fr okIns (by simp) λb hb'=>hsetn b (hnK b ?_);have:b∈vB (.slice (some ⟨g,0,none⟩) (cs.length+1) c)++(cs++[(i,Value.slice none 0 0)]).flatMap insSub:=hb';rw[vB_slice,List.flatMap_append,List.flatMap_cons,List.flatMap_nil,hsub]at this;simp only[List.append_nil]at this;rcases List.mem_append.1 this with h1|h1
  ·exact List.mem_append_left _ h1
  ·exact List.mem_append_right _ (List.mem_append_left _ h1)
 ·exact List.mem_append_right _ (List.mem_append_left _ (rowB_plain hb'))
 ·exact List.mem_append_right _ (List.mem_append_right _ (List.mem_append_left _ (rowB_plain hb')))
 ·exact List.mem_append_right _ (List.mem_append_right _ (List.mem_append_right _ hb'))
theorem CMem.setD(h:CMem lo wr K U nm st cs ts cv lv kv tv gv)(d:Int):CMem lo (wr.setCell ⟨K,3,none⟩ (.int .i64 d)) K U nm {st with dep:=d} cs ts cv lv kv tv gv:=by
 have hnd:=h.nd;obtain⟨nK,-⟩:=List.nodup_cons.1 hnd;have hs:∀b,b∈(U::(rowB insSub cv cs++(vB lv++(vB kv++rowB ttS tv ts))))->(wr.setCell ⟨K,3,none⟩ (.int .i64 d)).heap[b]?=wr.heap[b]?:=λb hm=>Below.heap_setCell _ _ _ _ (λe:b=K=>nK (e▸hm));have hsz:wr.heap.size<=(wr.setCell ⟨K,3,none⟩ (.int .i64 d)).heap.size:=by simp
 refine⟨h.k.set3 _,h.u.of_block (hs U (by simp)),h.code.fr okIns hsz λb hb=>hs b ?_,h.loc.fr okLoc hsz λb hb=>hs b ?_,h.kn.fr okStr hsz λb hb=>hs b ?_,h.td.fr okTd hsz λb hb=>hs b ?_,h.hcs,h.hts,h.nd,h.kl,h.ul⟩
 ·exact List.mem_cons_of_mem _ (List.mem_append_left _ hb)
 ·exact List.mem_cons_of_mem _ (List.mem_append_right _ (List.mem_append_left _ (rowB_plain hb)))
 ·exact List.mem_cons_of_mem _ (List.mem_append_right _ (List.mem_append_right _ (List.mem_append_left _ (rowB_plain hb))))
 ·exact List.mem_cons_of_mem _ (List.mem_append_right _ (List.mem_append_right _ (List.mem_append_right _ hb)))
end
theorem Tryz.insI:(Tryz.prog.info? 89).map (λi=>(i.zero,i.size,i.bytes))=some (some (.agg #[.int .i64 0,.int .i64 0,.slice none 0 0]),3,40):=by kernel_rfl
theorem CMem.low{lo:Nat}{w wr Z w4:World}{K U:Nat}{nm:ByteArray}{st:CSt}{cs:InsL}{ts:List TT}{cv lv kv tv gv:Value}(h:CMem lo wr K U nm st cs ts cv lv kv tv gv)(hw:Below lo w wr)(hb:Below wr.heap.size wr Z)(hg:Z.grownBy w4 cv.ownBlock):Below lo w w4:=by
 have hkl:=h.kl;have hk:=h.k.lt;have hb2:Below lo w Z:=hw.trans (hb.mono (by omega));exact hb2.grown hg (by have:=hb.size;omega) λb e=>(h.code.rg b (List.mem_append_left _ (mem_vB.2 e))).1
theorem CMem.kG{lo:Nat}{wr Z w4:World}{K U:Nat}{nm:ByteArray}{st:CSt}{cs:InsL}{ts:List TT}{cv lv kv tv gv:Value}(h:CMem lo wr K U nm st cs ts cv lv kv tv gv)(hb:Below wr.heap.size wr Z)(hg:Z.grownBy w4 cv.ownBlock):V5 w4 K (.pointer (some ⟨U,0,none⟩)) (.string nm) cv (.int .i64 st.dep) lv:=by
 have hz:=hb.size;have hk:=h.k.lt;refine h.k.of_block ?_;rw[hg.block K (by omega) (λe=>(List.nodup_cons.1 h.nd).1 (List.mem_cons_of_mem _ (List.mem_append_left _ (List.mem_append_left _ (mem_vB.2 e.symm)))))];exact hb.block K hk
theorem tab_low{lo:Nat}{w w':World}(h:TabAt w)(hb:Below lo w w')(hg:20<lo):TabAt w':=λi hi=>by
 rw[World.cell?_of_block (a:=⟨20,i,none⟩) (hb.block _ hg)];exact h i hi
theorem below_drew3{B:Nat}{a w:World}(h:Below B a w):Below B a w.drew:=⟨h.os,h.tape,h.output,h.size,h.block⟩
structure AF (X:List Nat) (w w':World):Prop where
 os:w'.os=w.os
 tape:w'.tape=w.tape
 output:w'.output=w.output
 size:w.heap.size<=w'.heap.size
 block:∀k,k<w.heap.size->k∉X->w'.heap[k]?=w.heap[k]?
theorem AF.of_below{X:List Nat}{w w':World}(h:Below w.heap.size w w'):AF X w w':=⟨h.os,h.tape,h.output,h.size,λk hk _=>h.block k hk⟩
theorem AF.trans{X Y:List Nat}{w w1 w2:World}(h:AF X w w1)(k:AF Y w1 w2)(hY:∀b∈Y,b∈X∨w.heap.size<=b):AF X w w2:=
 ⟨k.os.trans h.os,k.tape.trans h.tape,k.output.trans h.output,Nat.le_trans h.size k.size,λb hb hX=>by
  rw[k.block b (Nat.lt_of_lt_of_le hb h.size) (λhm=>by rcases hY b hm with h1|h1;exact hX h1;omega)];exact h.block b hb hX⟩
theorem AF.grown{v:Value}{U j:Nat}{w Z w4:World}{u:Value}(hb:Below w.heap.size w Z)(hg:Z.grownBy w4 v.ownBlock):AF (U::vB v) w (w4.setCell ⟨U,j,none⟩ u):=by
 have hz:=hb.size;refine⟨hg.os.trans hb.os,hg.tape.trans hb.tape,hg.output.trans hb.output,by have:=hg.size;simp;omega,λk hk hX=>?_⟩;rw[Below.heap_setCell _ _ _ _ (show k≠U from λe=>hX (by rw[e];simp)),hg.block k (by omega) (λe=>hX (List.mem_cons_of_mem _ (mem_vB.2 e.symm)))];exact hb.block k hk
theorem AF.grow2{kv tv u:Value}{U j:Nat}{w wx Z w4:World}(h:AF (U::vB kv) w wx)(hb:Below wx.heap.size wx Z)(hg:Z.grownBy w4 tv.ownBlock):AF (U::(vB kv++vB tv)) w (w4.setCell ⟨U,j,none⟩ u):=by
 have h2:=AF.grown (U:=U) (j:=j) (u:=u) hb hg;refine AF.trans ⟨h.os,h.tape,h.output,h.size,λk hk hX=>h.block k hk λhm=>hX ?_⟩ h2 λb hb=>Or.inl ?_
 ·rcases List.mem_cons.1 hm with rfl|hm
  ·exact List.mem_cons_self ..
  ·exact List.mem_cons_of_mem _ (List.mem_append_left _ hm)
 ·rcases List.mem_cons.1 hb with rfl|hm
  ·exact List.mem_cons_self ..
  ·exact List.mem_cons_of_mem _ (List.mem_append_right _ hm)
theorem AF.mono{X Y:List Nat}{w w':World}(h:AF X w w')(hs:∀b∈X,b∈Y):AF Y w w':=⟨h.os,h.tape,h.output,h.size,λk hk hY=>h.block k hk λhm=>hY (hs k hm)⟩
theorem AF.set{X:List Nat}{b j:Nat}{w w':World}(h:AF X w w')(hb:b∈X∨w.heap.size<=b)(u:Value):AF X w (w'.setCell ⟨b,j,none⟩ u):=
 ⟨h.os,h.tape,h.output,by simpa using h.size,λk hk hX=>by
  rw[Below.heap_setCell _ _ _ _ (show k≠b from λe=>by subst e;rcases hb with h1|h1;exact hX h1;omega)];exact h.block k hk hX⟩
theorem AF.then{X:List Nat}{w w1 w2:World}(h:AF X w w1)(hb:Below w1.heap.size w1 w2):AF X w w2:=h.trans (AF.of_below (X:=[]) hb) λb hb=>by cases hb
theorem AF.low{X:List Nat}{lo:Nat}{w w':World}(h:AF X w w')(hX:∀b∈X,lo<=b)(hz:lo<=w.heap.size):Below lo w w':=⟨h.os,h.tape,h.output,h.size,λk hk=>h.block k (by omega) λhm=>by have:=hX k hm;omega⟩
def CM(G:TT->Prop)(lo:Nat)(w:World)(K U:Nat)(nm:ByteArray)(st:CSt)(gv:Value)(B:List Nat):Prop:=∃cs ts cv lv kv tv,CMem lo w K U nm st cs ts cv lv kv tv gv∧B=cmB K U cv cs lv kv tv ts∧∀x∈ts,G x
def CRes(G:TT->Prop)(lo:Nat)(K U:Nat)(nm:ByteArray)(gv:Value)(B:List Nat)(w:World)(st:CSt)(e:Ending)(w':World):Prop:=e=.returned (.tuple #[])∧AF B w w'∧∃B',CM G lo w' K U nm st gv B'∧∀b∈B',b∈B∨w.heap.size<=b
theorem CM.rg{G:TT->Prop}{lo:Nat}{w:World}{K U:Nat}{nm:ByteArray}{st:CSt}{gv:Value}{B:List Nat}(h:CM G lo w K U nm st gv B):∀b∈B,lo<=b∧b<w.heap.size:=by
 obtain⟨cs,ts,cv,lv,kv,tv,h,rfl,-⟩:=h;exact h.rg
theorem CM.lo{G:TT->Prop}{lo:Nat}{w:World}{K U:Nat}{nm:ByteArray}{st:CSt}{gv:Value}{B:List Nat}(h:CM G lo w K U nm st gv B):lo<=w.heap.size:=by
 obtain⟨cs,ts,cv,lv,kv,tv,h,rfl,-⟩:=h;exact Nat.le_trans h.kl (Nat.le_of_lt h.k.lt)
theorem CM.low{G:TT->Prop}{lo:Nat}{w w':World}{K U:Nat}{nm:ByteArray}{st:CSt}{gv:Value}{B:List Nat}(h:CM G lo w K U nm st gv B)(hf:AF B w w'):Below lo w w':=hf.low (λb hb=>(h.rg b hb).1) h.lo
theorem CM.fr{G:TT->Prop}{lo:Nat}{w w':World}{K U:Nat}{nm:ByteArray}{st:CSt}{gv:Value}{B:List Nat}(h:CM G lo w K U nm st gv B)(hz:w.heap.size<=w'.heap.size)(hf:Fr B w w'):CM G lo w' K U nm st gv B:=by
 obtain⟨cs,ts,cv,lv,kv,tv,h,rfl,hG⟩:=h;exact⟨cs,ts,cv,lv,kv,tv,h.fr hz hf,rfl,hG⟩
theorem CM.keep{G:TT->Prop}{lo:Nat}{w w':World}{K U:Nat}{nm:ByteArray}{st:CSt}{gv:Value}{B:List Nat}(h:CM G lo w K U nm st gv B)(hb:Below w.heap.size w w'):CM G lo w' K U nm st gv B:=h.fr hb.size λb hm=>hb.block b (h.rg b hm).2
theorem CRes.trans{G:TT->Prop}{lo:Nat}{K U:Nat}{nm:ByteArray}{gv:Value}{B B1:List Nat}{w w1 w2:World}{st:CSt}{e:Ending}(h1:AF B w w1)(h2:∀b∈B1,b∈B∨w.heap.size<=b)(h:CRes G lo K U nm gv B1 w1 st e w2):CRes G lo K U nm gv B w st e w2:=by
 obtain⟨he,hf,B',hm,hb⟩:=h;have:=h1.size;refine⟨he,h1.trans hf h2,B',hm,λb hb'=>?_⟩;rcases hb b hb' with h3|h3
 ·exact h2 b h3
 ·right;omega
theorem cmB_cv{K U:Nat}{cv cv' lv kv tv:Value}{cs cs':InsL}{ts:List TT}{P:Nat->Prop}(h:∀b∈rowB insSub cv' cs',b∈rowB insSub cv cs∨P b):∀b∈cmB K U cv' cs' lv kv tv ts,b∈cmB K U cv cs lv kv tv ts∨P b:=by
 intro b hb;rcases List.mem_cons.1 hb with rfl|hb
 ·exact Or.inl (List.mem_cons_self ..)
 rcases List.mem_cons.1 hb with rfl|hb
 ·exact Or.inl (List.mem_cons_of_mem _ (List.mem_cons_self ..))
 rcases List.mem_append.1 hb with hb|hb
 ·rcases h b hb with h1|h1
  ·exact Or.inl (List.mem_cons_of_mem _ (List.mem_cons_of_mem _ (List.mem_append_left _ h1)))
  ·exact Or.inr h1
 ·exact Or.inl (List.mem_cons_of_mem _ (List.mem_cons_of_mem _ (List.mem_append_right _ hb)))
theorem put_any{G:TT->Prop}{lo:Nat}{w:World}{K U:Nat}{nm:ByteArray}{st:CSt}{gv:Value}{B:List Nat}(op:Nat)(a:Int)(hop:op<21)(hlo:20<lo)(hT:TabAt w)(h:CM G lo w K U nm st gv B)(hl:st.code.length<=100000):
 Calls Tryz.prog 163 #[.pointer (some ⟨K,0,none⟩),.int .i64 (op:Int),.int .i64 a] w λe w'=>CRes G lo K U nm gv B w (cPut op a st) e w':=by
 obtain⟨cs,ts,cv,lv,kv,tv,h,hBe,hGt⟩:=h;rw[<-h.hcs,List.length_map]at hl;have HBE0:=hid hBe;have HGT:=hid hGt;clear hBe hGt;obtain⟨cp,cc,rfl⟩:=h.code.slice;obtain⟨ii,hii,hij⟩:=Option.map_eq_some_iff.1 Tryz.insI;simp only[Prod.mk.injEq]at hij;obtain⟨hi0,hi1,hi2⟩:=hij;obtain⟨w0,hw0⟩:∃w0,w0=w.alloc (.cells #[.int .i64 (op:Int),.int .i64 a,.slice none 0 0] 89):=⟨_,rfl⟩;have hb0:Below w.heap.size w w0:=by rw[hw0];exact(Below.refl _ _).alloc (Nat.le_refl _) _
 have HT:=hid hT;have HM:=hid h;have HM0:=hid (h.keep hb0);have HB0:=hid hb0;have hKw:=h.k.lt;obtain⟨k0,k1,k2,k3,k4,kf⟩:=id HM0.out.k;have kf2:=kf 2;have hz0:w0.heap.size=w.heap.size+1:=by rw[hw0];simp
 have HI0:Hid (V3 w0 w.heap.size (.int .i64 (op:Int)) (.int .i64 a) (.slice none 0 0)):=by
  subst hw0;exact⟨by simp,by simp,by simp,λj=>by simp⟩
 obtain⟨j0,j1,j2,-⟩:=id HI0.out;have k2a:=λo=>alloc_old w0 o _ _ _ k2;have j0a:=λo=>alloc_old w0 o _ _ _ j0;have j1a:=λo=>alloc_old w0 o _ _ _ j1;have j2a:=λo=>alloc_old w0 o _ _ _ j2;have HZ1:Hid (∀o,Below w0.heap.size w0 (w0.alloc o)):=λo=>(Below.refl _ _).alloc (Nat.le_refl _) _;have HPX:Hid (∀(Z w4:World) (g c:Nat),Below w0.heap.size w0 Z->Z.grownBy w4 (Value.slice cp cs.length cc).ownBlock->((Value.slice cp cs.length cc).ownBlock=some g∨g=Z.heap.size)->g<w4.heap.size->w4.ownsRow 0 89 3 (.slice (some ⟨g,0,none⟩) (cs.length+1) c) (cs.length+1) (cs.flatMap insC++[.int .i64 (op:Int),.int .i64 a,.slice none 0 0])->CMem lo (w4.setCell ⟨K,2,none⟩ (.slice (some ⟨g,0,none⟩) (cs.length+1) c)) K U nm {st with code:=st.code++[⟨(op:Int),a,[]⟩]} (cs++[(⟨(op:Int),a,[]⟩,.slice none 0 0)]) ts (.slice (some ⟨g,0,none⟩) (cs.length+1) c) lv kv tv gv∧V3 (w4.setCell ⟨K,2,none⟩ (.slice (some ⟨g,0,none⟩) (cs.length+1) c)) w.heap.size (.int .i64 (op:Int)) (.int .i64 a) (.slice none 0 0)∧AF B w (w4.setCell ⟨K,2,none⟩ (.slice (some ⟨g,0,none⟩) (cs.length+1) c))∧∀b∈cmB K U (.slice (some ⟨g,0,none⟩) (cs.length+1) c) (cs++[(⟨(op:Int),a,[]⟩,.slice none 0 0)]) lv kv tv ts,b∈B∨w.heap.size<=b):=by
  intro Z w4 g c hbZ hg hat hlt hown;have hzZ:=hbZ.size;refine⟨HM0.out.pushC (i:=⟨(op:Int),a,[]⟩) rfl hbZ hg hat hlt hown,?_,?_,?_⟩
  ·refine HI0.out.of_block ?_;rw[Below.heap_setCell _ _ _ _ (show w.heap.size≠K by omega),hg.block _ (by omega) (λe=>by have:=(HM.out.code.rg _ (List.mem_append_left _ (mem_vB.2 e.symm))).2;omega)];exact hbZ.block _ (by omega)
  ·rw[HBE0.out];refine(AF.grown (HB0.out.trans (hbZ.mono (by omega))) hg).mono λb hb=>?_;rcases List.mem_cons.1 hb with rfl|hb
   ·exact List.mem_cons_self ..
   ·exact List.mem_cons_of_mem _ (List.mem_cons_of_mem _ (List.mem_append_left _ (List.mem_append_left _ hb)))
  ·rw[HBE0.out];refine cmB_cv λb hb=>?_;rcases List.mem_append.1 hb with h1|h1
   ·rw[vB_slice]at h1;obtain rfl:=List.mem_singleton.1 h1;rcases hat with h2|h2
    ·exact Or.inl (List.mem_append_left _ (mem_vB.2 h2))
    ·right;omega
   ·rw[List.flatMap_append]at h1;rcases List.mem_append.1 h1 with h2|h2
    ·exact Or.inl (List.mem_append_right _ h2)
    ·rw[List.flatMap_cons,List.flatMap_nil,List.append_nil]at h2;exact absurd h2 (by unfold insSub;simp[rowB,vB,Value.ownBlock])
 clear h hT kf hb0;go_enter Tryz.func163,Tryz.ntmps163;go_upto_region 1 with(fail)
 rw[<-hw0];have HZ0:=hid hz0;clear hw0 hz0;go_cut [] (λwx=>∃cv',Hid (CMem lo wx K U nm {st with code:=st.code++[⟨(op:Int),a,[]⟩]} (cs++[(⟨(op:Int),a,[]⟩,.slice none 0 0)]) ts cv' lv kv tv gv∧V3 wx w.heap.size (.int .i64 (op:Int)) (.int .i64 a) (.slice none 0 0)∧AF B w wx∧∀b∈cmB K U cv' (cs++[(⟨(op:Int),a,[]⟩,.slice none 0 0)]) lv kv tv ts,b∈B∨w.heap.size<=b))
 case first=>
  go_region_law
   (first
   |(refine step_append_lies _ rfl (.tmp 14) (.tmp 16) 59 rfl 0 89 ii _ 3 40 Tryz.underlying59 hii hi0 hi1 hi2 rfl (by omega) (.slice cp cs.length cc) cs.length (cs.flatMap insC) (by simp[Act.eval];done) (HM0.out.code.own.alloc _) ⟨w0.heap.size,0,none⟩ 1 1 [.int .i64 (op:Int),.int .i64 a,.slice none 0 0] (by simp[Act.eval];done) rfl (by have h:=World.news_of_block (heap_alloc_new w0 (Obj.cells #[.int .i64 (op:Int),.int .i64 a,.slice none 0 0] 89));simpa using h) (by intro u hu;simp at hu;rcases hu with rfl|rfl|rfl<;>rfl) (by omega) (by unfold maxLen;omega) (by omega) (Nat.zero_le _) _ rfl ?_;intro g1 c1 w4 hown hgrow hat hlt1;have HMX:=hid (HPX.out _ _ _ _ (by first|exact HZ1.out _|exact below_drew3 (HZ1.out _)) hgrow hat hlt1 hown);obtain⟨e0,e1,e2,e3,e4,ef⟩:=HM0.out.kG (by first|exact HZ1.out _|exact below_drew3 (HZ1.out _)) hgrow;have ef2:=ef 2;clear hown hgrow hat hlt1 ef e0 e1 e3 e4))
  all_goals
   go_wp2_with fail
   go_meet
   exact⟨_,HMX⟩
 case rest=>
  rename World=>wx
  obtain⟨cv',HK⟩:=hcut;obtain⟨k0,k1,k2,k3,k4,kf⟩:=id HK.out.1.k;have kf3:=kf 3;obtain⟨j0,j1,j2,-⟩:=id HK.out.2.1;have HTX:=hid (tab_low HT.out (HK.out.2.2.1.low (λb hb=>(HM.out.rg b (HBE0.out▸hb)).1) (Nat.le_trans HM.out.kl (Nat.le_of_lt hKw))) hlo);have HBE:=hid (λX (hb:Below wx.heap.size wx X)=>behind_tab op a st.dep (.slice none 0 0) X hop (HTX.out.keep hb));have hbd:Below wx.heap.size wx wx.drew:=below_drew3 (Below.refl _ _);have d3:wx.drew.cell? ⟨K,3,none⟩=_:=k3;have dj0:wx.drew.cell? ⟨w.heap.size,0,none⟩=_:=j0;have dj1:wx.drew.cell? ⟨w.heap.size,1,none⟩=_:=j1;have dj2:wx.drew.cell? ⟨w.heap.size,2,none⟩=_:=j2;have HBE1:=hid (HBE.out wx.drew hbd);clear kf k0 k1 k2 k4 HBE;go_wp2_with fail
  go_region_with ((go_at_call 122;refine HBE1.out.mono ?_;rintro e w6 ⟨rfl,hb6⟩;have hb7:Below wx.heap.size wx w6:=hbd.trans (hb6.mono (Nat.le_refl _));have HM6:=hid (HK.out.1.keep hb7);obtain⟨m0,m1,m2,m3,m4,mf⟩:=id HM6.out.k;have mf3:=mf 3;have HB6:=hid (HK.out.2.2.1.then hb7);clear hb6 hb7 mf m0 m1 m2 m4))
  all_goals(try go_wp2)
  all_goals
   refine bE ?_;exact⟨rfl,HB6.out.set (Or.inl (by rw[HBE0.out];exact List.mem_cons_self ..)) _,_,⟨_,_,_,_,_,_,HM6.out.setD _,rfl,HGT.out⟩,HK.out.2.2.2⟩
theorem update_any{G:TT->Prop}{lo:Nat}{w:World}{K U:Nat}{nm:ByteArray}{st:CSt}{gv:Value}{B:List Nat}(p:Int)(hlo:20<lo)(hT:TabAt w)(h:CM G lo w K U nm st gv B)(hl:st.code.length<=100000)(hd:-1000000<=st.dep∧st.dep<=1000000)(hp:-1000000<=p∧p<=1000000):
 Calls Tryz.prog 162 #[.pointer (some ⟨K,0,none⟩),.int .i64 p] w λe w'=>CRes G lo K U nm gv B w (cUpd p st) e w':=by
 have HP:=hid (put_any 5 (st.dep-2-p) (by omega) hlo hT h hl);obtain⟨cs,ts,cv,lv,kv,tv,h,hBe,hGt⟩:=h;obtain⟨k0,k1,k2,k3,k4,-⟩:=id h.k;obtain⟨d,hdd⟩:∃d,st.dep=d:=⟨_,rfl⟩;rw[hdd]at k3 hd HP;have HDD:Hid (cUpd p st=cPut 5 (d-2-p) st):=by show _=_;unfold cUpd;rw[hdd]
 rw[HDD.out];clear h hT hdd hBe hGt;obtain⟨hd1,hd2⟩:=hd;obtain⟨hp1,hp2⟩:=hp;go_enter Tryz.func162,Tryz.ntmps162;go_wp2_with (first
  |(go_at_call 163;refine HP.out.mono ?_;intro e w1 hr;obtain⟨rfl,-⟩:=id hr;have HR:=hid hr;clear hr))
 refine bE ?_;exact HR.out
section
variable {lo:Nat} {wr Z w4:World} {K U:Nat} {nm:ByteArray} {st:CSt} {cs:InsL} {ts:List TT} {cv lv kv tv gv:Value} {g c:Nat}
end
def PaRes(w:World)(l:List (Value×Value))(e:Ending)(w':World):Prop:=Below w.heap.size w w'∧∃v',e=.returned v'∧RowP w' w.heap.size v' l
theorem PaRes.rebase{w w1 w':World}{l:List (Value×Value)}{e:Ending}(h:PaRes w1 l e w')(hb:Below w.heap.size w w1):PaRes w l e w':=by
 obtain⟨h1,v',h2,h3⟩:=h;exact⟨hb.trans (h1.mono hb.size),v',h2,h3.low hb.size⟩
theorem PaRes.one{w w':World}{l:List (Value×Value)}{e:Ending}(h:PaRes w l e w'):∃v,e=.returned v:=⟨_,h.2.choose_spec.1⟩
theorem PaRes.slice{w w':World}{l:List (Value×Value)}{e:Ending}(h:PaRes w l e w'):∃p c,e=.returned (.slice p l.length c):=by
 obtain⟨h1,v',h2,h3⟩:=h;obtain⟨p,c,rfl⟩:=h3.slice;exact⟨p,c,h2⟩
theorem partsNum_any(n:Int)(w:World):Calls Tryz.prog 339 #[.agg #[.int .i64 n]] w λe w'=>PaRes w [] e w':=by
 go_enter Tryz.func339,Tryz.ntmps339;go_wp2;go_ret;exact⟨(Below.refl _ _).alloc (Nat.le_refl _) _,_,rfl,RowS.nil _ _⟩
theorem partsName_any(t:ByteArray)(n:Int)(w:World):Calls Tryz.prog 324 #[.agg #[.string t,.int .i64 n]] w λe w'=>PaRes w [] e w':=by
 go_enter Tryz.func324,Tryz.ntmps324;go_wp2;go_ret;exact⟨(Below.refl _ _).alloc (Nat.le_refl _) _,_,rfl,RowS.nil _ _⟩
theorem partsCon_any(tag:Int)(fv:Value)(es:List (TypeId×Value))(w:World)(h:ExAt w fv es)(hl:es.length<=100000):Calls Tryz.prog 342 #[.agg #[.int .i64 tag,fv]] w λe w'=>PaRes w (bareL es) e w':=by
 obtain⟨p,c,rfl,-⟩:=id h;have HB:=hid (λo=>(bare_any es _ (w.alloc o) (h.keep ((Below.refl _ _).alloc (Nat.le_refl _) _)) hl).mono λ_ _ hr=>PaRes.rebase hr ((Below.refl w.heap.size w).alloc (Nat.le_refl _) o));clear h;generalize es.length=n at*;go_enter Tryz.func342,Tryz.ntmps342;go_wp2_with (first
  |(go_at_call 337;refine(HB.out _).mono ?_;intro e w1 hr;have HR:=hid hr;obtain⟨v,rfl⟩:=hr.one;clear hr))
 go_ret;exact HR.out
theorem partsOp_any(k:Int)(a b:TypeId×Value)(w:World):Calls Tryz.prog 340 #[.agg #[.int .i64 k,.iface a.1 a.2,.iface b.1 b.2]] w λe w'=>PaRes w (bareL [a,b]) e w':=by
 have HB:Hid (∀o,Calls Tryz.prog 337 #[.slice (some ⟨w.heap.size+1,0,none⟩) 2 2] ((w.alloc o).alloc (.cells #[.iface a.1 a.2,.iface b.1 b.2] 181)) λe w'=>PaRes w (bareL [a,b]) e w'):=by
  intro o;have hb:Below w.heap.size w ((w.alloc o).alloc (.cells #[.iface a.1 a.2,.iface b.1 b.2] 181)):=((Below.refl _ _).alloc (Nat.le_refl _) _).alloc (by simp) _;refine(bare_any [a,b] _ _ ⟨some ⟨w.heap.size+1,0,none⟩,2,rfl,λ_=>⟨w.heap.size+1,0,rfl,λi hi=>?_⟩⟩ (by simp)).mono λ_ _ hr=>PaRes.rebase hr hb;match i,hi with
  |0,_=>simp
  |1,_=>simp
  |i+2,hi=>simp at hi;omega
 go_enter Tryz.func340,Tryz.ntmps340;go_wp2_with (first
  |(go_at_call 337;refine(HB.out _).mono ?_;intro e w1 hr;have HR:=hid hr;obtain⟨v,rfl⟩:=hr.one;clear hr))
 go_ret;exact HR.out
abbrev BV:=Int×(Option Addr×Nat×Nat)×(TypeId×Value)
def bvN(b:BV):Value:=.slice b.2.1.1 b.2.1.2.1 b.2.1.2.2
def bvB(b:BV):Value:=.iface b.2.2.1 b.2.2.2
def BrAt(w:World)(v:Value)(bs:List BV):Prop:=∃p c,v=.slice p bs.length c∧(bs≠[]->∃g o,p=some ⟨g,o,none⟩∧∀i (hi:i<bs.length),w.cell? ⟨g,o+i*3,none⟩=some (.int .i64 bs[i].1)∧w.cell? ⟨g,o+i*3+1,none⟩=some (bvN bs[i])∧w.cell? ⟨g,o+i*3+2,none⟩=some (bvB bs[i]))
theorem BrAt.keep{w w':World}{v:Value}{bs:List BV}(h:BrAt w v bs)(hb:Below w.heap.size w w'):BrAt w' v bs:=by
 obtain⟨p,c,rfl,hc⟩:=h;refine⟨p,c,rfl,λhl=>?_⟩;obtain⟨g,o,rfl,hx⟩:=hc hl;exact⟨g,o,rfl,λi hi=>⟨cell_keep hb (hx i hi).1,cell_keep hb (hx i hi).2.1,cell_keep hb (hx i hi).2.2⟩⟩
def caseL(a:TypeId×Value)(bs:List BV):List (Value×Value):=(.iface a.1 a.2,.slice none 0 0)::bs.map λb=>(bvB b,bvN b)
structure CPSt (a:TypeId×Value) (bs:List BV) (w wr:World) (C:Nat) (cv:Value) (k:Nat) (vp:Option Addr) (vc:Nat):Prop where
 row:RowP wr (w.heap.size+1) (.slice vp (k+1) vc) (caseL a (bs.take k))
 low:Below (w.heap.size+1) (w.alloc (.cells #[.iface a.1 a.2,cv] 316)) wr
theorem caseL_len(a:TypeId×Value)(bs:List BV):(caseL a bs).length=bs.length+1:=by unfold caseL;simp
theorem CPSt.next{a:TypeId×Value}{bs:List BV}{w wr X w2:World}{C:Nat}{cv:Value}{k:Nat}{vp:Option Addr}{vc:Nat}{ob:Obj}(h:CPSt a bs w wr C cv k vp vc)(hk:k<bs.length)(hX:Below wr.heap.size wr X)
 (hgr:(X.alloc ob).grownBy w2 (Value.slice vp (k+1) vc).ownBlock) {g c:Nat} (hat:(Value.slice vp (k+1) vc).ownBlock=some g∨g=(X.alloc ob).heap.size) (hlt:g<w2.heap.size)
 (hown:w2.ownsRow 0 186 2 (.slice (some ⟨g,0,none⟩) (k+1+1) c) (k+1+1) ((caseL a (bs.take k)).flatMap ptC2++[bvB bs[k],bvN bs[k]])):CPSt a bs w w2 C cv (k+1) (some ⟨g,0,none⟩) c:=by
 have hlo:w.heap.size+1<=wr.heap.size:=by have:=h.low.size;simpa using this
 have hl:(caseL a (bs.take k)).length=k+1:=by rw[caseL_len,List.length_take];omega
 have e:caseL a (bs.take (k+1))=caseL a (bs.take k)++[(bvB bs[k],bvN bs[k])]:=by
  unfold caseL;rw[List.take_succ_eq_append_getElem hk,List.map_append];rfl
 have hrow:=h.row.keep okP hX;refine⟨?_,below_push (h.low.trans (hX.mono hlo)) (Nat.le_trans hlo hX.size) (λb hb=>(hrow.rg b (List.mem_append_left _ (mem_vB.2 hb))).1) hgr⟩;rw[e];have:=hrow.pushN okP (Nat.le_trans hlo hX.size) trivial hgr hat hlt (x:=(bvB bs[k],bvN bs[k])) (c:=c) (by rw[hl];exact hown);rw[hl]at this;exact this
theorem partsCase_any(a:TypeId×Value)(bv:Value)(bs:List BV)(w:World)(h:BrAt w bv bs)(hl:bs.length<=100000):Calls Tryz.prog 338 #[.agg #[.iface a.1 a.2,bv]] w λe w'=>PaRes w (caseL a bs) e w':=by
 obtain⟨p,c,rfl,hc⟩:=id h;have HC:=hid hc;obtain⟨ii,hii,hij⟩:=Option.map_eq_some_iff.1 Tryz.partI;simp only[Prod.mk.injEq]at hij;obtain⟨hi0,hi1,hi2⟩:=hij;have HB:Hid (Calls Tryz.prog 337 #[.slice (some ⟨w.heap.size+1,0,none⟩) 1 1] ((w.alloc (.cells #[.iface a.1 a.2,.slice p bs.length c] 316)).alloc (.cells #[.iface a.1 a.2] 181)) λe w'=>PaRes (w.alloc (.cells #[.iface a.1 a.2,.slice p bs.length c] 316)) (bareL [a]) e w'):=by
  refine(bare_any [a] _ _ ⟨some ⟨w.heap.size+1,0,none⟩,1,rfl,λ_=>⟨w.heap.size+1,0,rfl,λi hi=>?_⟩⟩ (by simp)).mono λ_ _ hr=>PaRes.rebase hr ((Below.refl _ _).alloc (Nat.le_refl _) _);match i,hi with
  |0,_=>simp
  |i+1,hi=>simp only[List.length_cons,List.length_nil]at hi;omega
 clear hc h;go_enter Tryz.func338,Tryz.ntmps338;go_wp2_with (first
  |(go_at_call 337;refine HB.out.mono ?_;intro e w1 hr;have HR:=hid hr;obtain⟨vp,vc,rfl⟩:=hr.slice;have k1:=cell_keep hr.1 (show(w.alloc (.cells #[.iface a.1 a.2,.slice p bs.length c] 316)).cell? ⟨w.heap.size,1,none⟩=some (.slice p bs.length c) by simp);clear hr))
 have hbl:(bareL [a]).length=1:=rfl;have HR0:Hid (CPSt a bs w w1 w.heap.size (.slice p bs.length c) 0 vp vc):=by
  obtain⟨h1,v',h2,h3⟩:=HR.out;cases h2;refine⟨?_,?_⟩
  ·rw[List.take_zero];have:=h3;rw[show(w.alloc (.cells #[.iface a.1 a.2,.slice p bs.length c] 316)).heap.size=w.heap.size+1 by simp]at this;exact this
  ·rw[show(w.alloc (.cells #[.iface a.1 a.2,.slice p bs.length c] 316)).heap.size=w.heap.size+1 by simp]at h1;exact h1
 rw[hbl];clear hbl HR HB;go_loopw [3,13] (λlv kv wr=>∃(k:Nat) (vp:Option Addr) (vc:Nat),k<=bs.length∧lv=.slice vp (k+1) vc∧kv=.int .i64 (k:Int)∧Hid (CPSt a bs w wr w.heap.size (.slice p bs.length c) k vp vc)) (λ_ kv _=>bs.length-(intOf kv).toNat)
 case atStart=>exact⟨0,vp,vc,Nat.zero_le _,rfl,rfl,HR0.out⟩
 case round=>
  clear HR0 k1;obtain⟨k,vp,vc,hk,rfl,rfl,HS⟩:=hrel;rename World=>wr
  by_cases hlt:k<bs.length
  ·have h0:(0:Int)<=(k:Int):=by omega
   have h1:(k:Int)<(bs.length:Int):=by omega
   have hne:bs≠[]:=λe=>by rw[e]at hlt;simp at hlt
   obtain⟨g,o,rfl,hx⟩:=HC.out hne;have hbw:Below w.heap.size w wr:=((Below.refl w.heap.size w).alloc (Nat.le_refl _) _).trans (HS.out.low.mono (Nat.le_succ _));have c0:=cell_keep hbw (hx k hlt).1;have c1:=cell_keep hbw (hx k hlt).2.1;have c2:=cell_keep hbw (hx k hlt).2.2;have HK:=hid (λX w2 ob=>HS.out.next (X:=X) (w2:=w2) (ob:=ob) hlt);have hbl:(caseL a (bs.take k)).length=k+1:=by rw[caseL_len,List.length_take];omega
   have HOWN:Hid (wr.ownsRow 0 186 2 (.slice vp (k+1) vc) (k+1) ((caseL a (bs.take k)).flatMap ptC2)):=by
    have:=HS.out.row.own;rw[hbl]at this;exact this
   obtain⟨bt,⟨np,nn,nc⟩,et,ex,hek⟩:∃(t:Int) (n:Option Addr×Nat×Nat) (a b:_),bs[k]=(t,n,a,b):=⟨_,_,_,_,rfl⟩;rw[hek]at c0 c1 c2 HK;simp only[bvN,bvB]at c1 c2 HK;clear hx hek hbl;generalize (caseL a (bs.take k)).flatMap ptC2=XS at*;go_wp2_with (first
    |(at_builtin;refine wpList_append_lies _ rfl (.tmp 17) (.tmp 23) 299 rfl 0 186 ii _ 2 40 Tryz.underlying299 hii hi0 hi1 hi2 rfl (by omega) (.slice vp (k+1) vc) (k+1) XS rfl ((HOWN.out.alloc _).alloc _) ⟨wr.heap.size+1,0,none⟩ 1 1 [.iface et ex,.slice np nn nc] rfl rfl (by simpa using World.news_of_block (heap_alloc_new (wr.alloc (Obj.cells #[.int .i64 bt,.slice np nn nc,.iface et ex] 319)) (Obj.cells #[.iface et ex,.slice np nn nc] 186))) (by intro u hu;simp at hu;rcases hu with rfl|rfl<;>rfl) (by omega) (by unfold maxLen;omega) (by omega) (Nat.zero_le _) _ rfl ?_;intro g1 k1 w7 hown hgrow hat hlt1;have HNX:=hid (HK.out _ _ _ ((Below.refl _ _).alloc (Nat.le_refl _) _) hgrow hat hlt1 hown);clear hown hgrow hat hlt1))
   exact⟨⟨k+1,_,_,by omega,rfl,by go_num,HNX.out⟩,by simp[intOf];omega⟩
  ·obtain rfl:k=bs.length:=by omega
   have hge:¬(bs.length:Int)<(bs.length:Int):=by omega
   go_wp2;go_ret;have hrow:=HS.out.row;rw[List.take_length]at hrow;exact⟨((Below.refl w.heap.size w).alloc (Nat.le_refl _) _).trans (HS.out.low.mono (Nat.le_succ _)),_,rfl,hrow.low (Nat.le_succ _)⟩
def exV(e:TypeId×Value):Value:=.iface e.1 e.2
theorem ExAt.of_row{w:World}{g n c:Nat}{es:List (TypeId×Value)}(h:w.ownsRow 0 181 1 (.slice (some ⟨g,0,none⟩) n c) n (es.map exV))(hn:n=es.length):ExAt w (.slice (some ⟨g,0,none⟩) n c) es:=by
 subst hn;refine⟨_,c,rfl,λ_=>⟨g,0,rfl,λi hi=>?_⟩⟩;rw[Nat.zero_add,h.cellAt i (by omega),List.getElem?_map,List.getElem?_eq_getElem hi];rfl
theorem partsCall_any(f:TypeId×Value)(av:Value)(es:List (TypeId×Value))(w:World)(h:ExAt w av es)(hne:es≠[])(hl:es.length<=99999):Calls Tryz.prog 341 #[.agg #[.iface f.1 f.2,av]] w λe w'=>PaRes w (bareL (f::es)) e w':=by
 obtain⟨p,c,rfl,hc⟩:=h;obtain⟨G,o,rfl,hx⟩:=hc hne;obtain⟨xi,hxi,hxj⟩:=Option.map_eq_some_iff.1 Tryz.exprI;simp only[Prod.mk.injEq]at hxj;obtain⟨hx0,hx1,hx2⟩:=hxj;have hpos:0<es.length:=List.length_pos_iff.2 hne;obtain⟨o1,ho1⟩:∃ob,ob=Obj.cells #[.iface f.1 f.2,.slice (some ⟨G,o,none⟩) es.length c] 363:=⟨_,rfl⟩;have HB2:Hid (Below w.heap.size w ((w.alloc o1).alloc (.cells #[.iface f.1 f.2] 181))):=((Below.refl _ _).alloc (Nat.le_refl _) _).alloc (by simp) _;have HOWN:Hid (((w.alloc o1).alloc (.cells #[.iface f.1 f.2] 181)).ownsRow 0 181 1 (.slice (some ⟨w.heap.size+1,0,none⟩) 1 1) 1 [.iface f.1 f.2]):=by
  have:=World.ownsRow_lit (base:=0) (e:=181) (size:=1) (w.alloc o1) #[.iface f.1 f.2] 1 (Nat.zero_le _) (by unfold maxLen;omega) rfl;rw[show(w.alloc o1).heap.size=w.heap.size+1 by simp]at this;exact this
 have HNEW:Hid (∀j u,(es.map exV)[j]?=some u->((w.alloc o1).alloc (.cells #[.iface f.1 f.2] 181)).cell? ((⟨G,o,none⟩:Addr).add j)=some u):=by
  intro j u hj;have e:(⟨G,o,none⟩:Addr).add j=⟨G,o+j,none⟩:=by unfold Addr.add;split<;>simp_all
  rw[e];rw[List.getElem?_map]at hj;obtain⟨y,hy,rfl⟩:=Option.map_eq_some_iff.1 hj;obtain⟨hj2,rfl⟩:=List.getElem?_eq_some_iff.1 hy;exact cell_keep HB2.out (hx j hj2)
 have HONE:Hid (∀u∈es.map exV,u.oneCell'=true):=by
  intro u hu;obtain⟨y,-,rfl⟩:=List.mem_map.1 hu;rfl
 have HK:Hid (∀g k w3,w3.ownsRow 0 181 1 (.slice (some ⟨g,0,none⟩) (1+es.length) k) (1+es.length) ([.iface f.1 f.2]++es.map exV)->((w.alloc o1).alloc (.cells #[.iface f.1 f.2] 181)).grownBy w3 (Value.slice (some ⟨w.heap.size+1,0,none⟩) 1 1).ownBlock->
  Calls Tryz.prog 337 #[.slice (some ⟨g,0,none⟩) (1+es.length) k] w3 λe w'=>PaRes w (bareL (f::es)) e w'):=by
  intro g k w3 hr hg;have hb3:Below w.heap.size w w3:=HB2.out.grown hg (by simp;omega) (λb hb=>by simp[Value.ownBlock]at hb;omega);exact(bare_any (f::es) _ w3 (ExAt.of_row (es:=f::es) (n:=1+es.length) hr (Nat.add_comm _ _)) (by simp;omega)).mono λ_ _ hr=>PaRes.rebase hr hb3
 have hxl:(es.map exV).length=es.length*1:=by simp
 rw[ho1]at HB2 HOWN HNEW HK;clear hc hx hne;generalize es.map exV=XS at*;generalize es.length=n at*;go_enter Tryz.func341,Tryz.ntmps341;go_wp2_with (first
  |(at_builtin;refine wpList_append_lies _ rfl (.tmp 5) (.tmp 7) 310 rfl 0 181 xi _ 1 16 Tryz.underlying310 hxi hx0 hx1 hx2 rfl (by omega) (.slice (some ⟨w.heap.size+1,0,none⟩) 1 1) 1 [.iface f.1 f.2] rfl HOWN.out ⟨G,o,none⟩ n c XS rfl hxl HNEW.out HONE.out hpos (by unfold maxLen;omega) (by omega) (Nat.zero_le _) _ rfl ?_;intro g1 k1 w3 hown hgrow hat hlt1;have HC3:=hid (HK.out _ _ _ hown hgrow);clear hown hgrow hat hlt1)
  |(go_at_call 337;refine HC3.out.mono ?_;intro e w1 hr;have HR:=hid hr;obtain⟨v,rfl⟩:=hr.one;clear hr))
 go_ret;exact HR.out
def nilV:Value:=.slice none 0 0
def letN(r:Bool)(nv:Value):Value:=if r then nv else nilV
def letP(r:Bool)(nv:Value)(es:List (TypeId×Value))(k:Nat):List (Value×Value):=(es.take k).map (λe=>(exV e,letN r nv))++(es.drop k).map (λe=>(exV e,nilV))
def letL(r:Bool)(nv:Value)(es:List (TypeId×Value))(b:TypeId×Value):List (Value×Value):=es.map (λe=>(exV e,letN r nv))++[(exV b,nv)]
theorem letP_len(r:Bool)(nv:Value)(es:List (TypeId×Value))(k:Nat):(letP r nv es k).length=es.length:=by unfold letP;simp;omega
theorem letP_all(r:Bool)(nv:Value)(es:List (TypeId×Value)):letP r nv es es.length=es.map (λe=>(exV e,letN r nv)):=by unfold letP;simp
theorem ptC2_len(l:List (Value×Value)):(l.flatMap ptC2).length=l.length*2:=by
 induction l with
 |nil=>rfl
 |cons a l ih=>rw[List.flatMap_cons,List.length_append,ih];simp[ptC2];omega
theorem ptC2_get1(A B:List (Value×Value))(x:Value×Value):((A++x::B).flatMap ptC2)[A.length*2+1]?=some x.2:=by
 rw[List.flatMap_append,List.getElem?_append_right (by rw[ptC2_len];omega),ptC2_len,show A.length*2+1-A.length*2=1 by omega];rfl
theorem ptC2_set1(A B:List (Value×Value))(x:Value×Value)(u:Value):((A++x::B).flatMap ptC2).set (A.length*2+1) u=(A++(x.1,u)::B).flatMap ptC2:=by
 rw[List.flatMap_append,List.flatMap_append,List.set_append_right _ _ (by rw[ptC2_len];omega),ptC2_len,show A.length*2+1-A.length*2=1 by omega];rfl
theorem letP_split{nv:Value}{es:List (TypeId×Value)}{k:Nat}(r:Bool)(hk:k<es.length):∃A B:List (Value×Value),A.length=k∧letP r nv es k=A++(exV es[k],nilV)::B∧letP r nv es (k+1)=A++(exV es[k],letN r nv)::B:=by
 refine⟨(es.take k).map (λe=>(exV e,letN r nv)),(es.drop (k+1)).map (λe=>(exV e,nilV)),by simp;omega,?_,?_⟩
 ·unfold letP;rw[List.drop_eq_getElem_cons hk];rfl
 ·unfold letP;rw[List.take_succ_eq_append_getElem hk,List.map_append,List.append_assoc];rfl
structure LPSt (r:Bool) (nv:Value) (es:List (TypeId×Value)) (w0 wr:World) (k:Nat) (vp:Option Addr) (vc:Nat):Prop where
 row:RowP wr w0.heap.size (.slice vp es.length vc) (letP r nv es k)
 low:Below w0.heap.size w0 wr
section
variable {r:Bool} {nv:Value} {es:List (TypeId×Value)} {w0 wr:World} {k:Nat} {vp:Option Addr} {vc:Nat}
theorem LPSt.own(h:LPSt r nv es w0 wr k vp vc):wr.ownsRow 0 186 2 (.slice vp es.length vc) es.length ((letP r nv es k).flatMap ptC2):=by
 have:=h.row.own;rw[letP_len]at this;exact this
theorem LPSt.at_(h:LPSt r nv es w0 wr k vp vc)(hk:k<es.length):∃g,vp=some ⟨g,0,none⟩∧w0.heap.size<=g∧wr.cell? ⟨g,k*2+1,none⟩=some nilV∧wr.frozen? ⟨g,k*2+1,none⟩=false:=by
 obtain⟨g,cap,hv,-,-⟩:=h.own.form (by omega);simp only[Value.slice.injEq,true_and]at hv;obtain⟨rfl,rfl⟩:=hv;have hg:=h.row.rg g (List.mem_append_left _ (mem_vB.2 rfl));refine⟨g,rfl,hg.1,?_,h.own.frozenAt _⟩;obtain⟨A,B,hA,h1,-⟩:=letP_split (nv:=nv) r hk;rw[h.own.cellAt _ (by omega),h1];subst hA;exact ptC2_get1 _ _ _
theorem LPSt.no(h:LPSt false nv es w0 wr k vp vc)(hk:k<es.length):LPSt false nv es w0 wr (k+1) vp vc:=by
 refine⟨?_,h.low⟩;obtain⟨A,B,-,h1,h2⟩:=letP_split (nv:=nv) false hk;have:=h.row;rw[h1]at this;rw[h2];exact this
theorem LPSt.yes{g:Nat}(h:LPSt true nv es w0 wr k (some ⟨g,0,none⟩) vc)(hk:k<es.length):LPSt true nv es w0 (wr.setCell ⟨g,k*2+1,none⟩ nv) (k+1) (some ⟨g,0,none⟩) vc:=by
 obtain⟨A,B,hA,h1,h2⟩:=letP_split (nv:=nv) true hk;have hs:=h.own.stored (k*2+1) nv;have hrg:=h.row.rg;have hg0:=hrg g (List.mem_append_left _ (mem_vB.2 rfl));have hlo:=h.low.size;have he:((letP true nv es k).flatMap ptC2).set (k*2+1) nv=(letP true nv es (k+1)).flatMap ptC2:=by
  rw[h1,h2];subst hA;exact ptC2_set1 _ _ _ _
 rw[he]at hs;refine⟨⟨by rw[letP_len];exact hs.1,λ_ _=>trivial,?_,λb hb=>?_⟩,h.low.grown hs.2 hlo (λb hb=>by cases hb;exact hg0.1)⟩
 ·have e:∀l:List (Value×Value),l.flatMap (λ_=>([]:List Nat))=[]:=λl=>by simp
  unfold rowB;rw[e,List.append_nil];exact vB_nodup _
 ·have hb2:b=g:=by
   unfold rowB at hb;simpa[vB_slice]using hb
  subst hb2;exact⟨hg0.1,by simpa using hg0.2⟩
end
theorem RowP.add{w0 wr X w2:World}{l:List (Value×Value)}{vp:Option Addr}{vc n:Nat}{ob:Obj}{a b:Value}(h:RowP wr w0.heap.size (.slice vp n vc) l)(hl:l.length=n)(hlow:Below w0.heap.size w0 wr)(hX:Below wr.heap.size wr X)
 (hgr:(X.alloc ob).grownBy w2 (Value.slice vp n vc).ownBlock) {g c:Nat} (hat:(Value.slice vp n vc).ownBlock=some g∨g=(X.alloc ob).heap.size) (hlt:g<w2.heap.size)
 (hown:w2.ownsRow 0 186 2 (.slice (some ⟨g,0,none⟩) (n+1) c) (n+1) (l.flatMap ptC2++[a,b])):RowP w2 w0.heap.size (.slice (some ⟨g,0,none⟩) (n+1) c) (l++[(a,b)])∧Below w0.heap.size w0 w2:=by
 have hlo:=hlow.size;have hrow:=h.keep okP hX;refine⟨?_,below_push (hlow.trans (hX.mono hlo)) (Nat.le_trans hlo hX.size) (λb hb=>(hrow.rg b (List.mem_append_left _ (mem_vB.2 hb))).1) hgr⟩;subst hl;exact hrow.pushN okP (Nat.le_trans hlo hX.size) trivial hgr hat hlt (x:=(a,b)) (c:=c) hown
theorem partsLet_any(r:Bool)(np:Option Addr)(nn nc:Nat)(ev:Value)(es:List (TypeId×Value))(b:TypeId×Value)(w:World)(h:ExAt w ev es)(hl:es.length<=99999):Calls Tryz.prog 336 #[.agg #[.bool r,.slice np nn nc,ev,.iface b.1 b.2]] w λe w'=>PaRes w (letL r (.slice np nn nc) es b) e w':=by
 obtain⟨p,c,rfl,-⟩:=id h;obtain⟨ii,hii,hij⟩:=Option.map_eq_some_iff.1 Tryz.partI;simp only[Prod.mk.injEq]at hij;obtain⟨hi0,hi1,hi2⟩:=hij;obtain⟨o1,ho1⟩:∃ob,ob=Obj.cells #[.bool r,.slice np nn nc,.slice p es.length c,.iface b.1 b.2] 312:=⟨_,rfl⟩;have hb1:Below w.heap.size w (w.alloc o1):=(Below.refl _ _).alloc (Nat.le_refl _) _;have HB:=hid (bare_any es _ (w.alloc o1) (h.keep hb1) (by omega));have HV0:Hid (V4 (w.alloc o1) w.heap.size (.bool r) (.slice np nn nc) (.slice p es.length c) (.iface b.1 b.2)):=by
  subst ho1;exact⟨by simp,by simp,by simp,by simp,λj=>by simp⟩
 have HB1:=hid hb1;obtain⟨w1,hw1⟩:∃w1,w.alloc o1=w1:=⟨_,rfl⟩;have hz1:w1.heap.size=w.heap.size+1:=by rw[<-hw1];simp
 have HB':Hid (Calls Tryz.prog 337 #[.slice p es.length c] (w.alloc (.cells #[.bool r,.slice np nn nc,.slice p es.length c,.iface b.1 b.2] 312)) λe w2=>∃vp vc,e=.returned (.slice vp es.length vc)∧Hid (LPSt r (.slice np nn nc) es w1 w2 0 vp vc)):=by
  show Calls _ _ _ _ _;rw[<-ho1];refine HB.out.mono ?_;rintro e w2 ⟨hb2,v,rfl,hrow⟩;obtain⟨vp,vc,rfl⟩:=hrow.slice;have hbl:(bareL es).length=es.length:=by unfold bareL;simp
  rw[hbl]at hrow ⊢;rw[hw1]at hb2 hrow;exact⟨vp,vc,rfl,⟨hrow,hb2⟩⟩
 rw[hw1]at HV0 HB1;clear h hb1 HB ho1 hw1;go_enter Tryz.func336,Tryz.ntmps336;go_wp2_with (first
  |(go_at_call 337;refine HB'.out.mono ?_;rintro e w2 ⟨vp,vc,rfl,HR0⟩))
 have hbl:Value.slice np nn nc=.slice np nn nc:=rfl;clear HB' hbl;go_loopw [10] (λkv wr=>∃k:Nat,k<=es.length∧kv=.int .i64 (k:Int)∧Hid (LPSt r (.slice np nn nc) es w1 wr k vp vc)) (λkv _=>es.length-(intOf kv).toNat)
 case atStart=>exact⟨0,Nat.zero_le _,rfl,HR0.out⟩
 case round=>
  clear HR0;obtain⟨k,hk,rfl,HS⟩:=hrel;rename World=>wr
  obtain⟨v0,v1,v2,v3,-⟩:=HV0.out.keep HS.out.low;by_cases hlt:k<es.length
  ·have h0:(0:Int)<=(k:Int):=by omega
   have h1:(k:Int)<(es.length:Int):=by omega
   obtain⟨g,rfl,hg,cc,cf⟩:=HS.out.at_ hlt;cases r
   ·have HN:=hid (HS.out.no hlt);go_wp2;exact⟨⟨k+1,by omega,by go_num,HN.out⟩,by simp[intOf];omega⟩
   ·have HN:=hid (HS.out.yes hlt);go_wp2;exact⟨⟨k+1,by omega,by go_num,HN.out⟩,by simp[intOf];omega⟩
  ·obtain rfl:k=es.length:=by omega
   have hge:¬(es.length:Int)<(es.length:Int):=by omega
   have HOWN:=hid HS.out.own;have HRW:Hid (∀w3 g k,(wr.alloc (Obj.cells #[.iface b.1 b.2,.slice np nn nc] 186)).grownBy w3 (Value.slice vp es.length vc).ownBlock->((Value.slice vp es.length vc).ownBlock=some g∨g=(wr.alloc (Obj.cells #[.iface b.1 b.2,.slice np nn nc] 186)).heap.size)->g<w3.heap.size->w3.ownsRow 0 186 2 (.slice (some ⟨g,0,none⟩) (es.length+1) k) (es.length+1) ((letP r (.slice np nn nc) es es.length).flatMap ptC2++[.iface b.1 b.2,.slice np nn nc])->PaRes w (letL r (.slice np nn nc) es b) (.returned (.slice (some ⟨g,0,none⟩) (es.length+1) k)) w3):=by
    intro w3 g k hgr hat hlt hown;have:=RowP.add (w0:=w1) (X:=wr) HS.out.row (letP_len _ _ _ _) HS.out.low (Below.refl _ _) hgr hat hlt hown;rw[letP_all]at this;exact⟨HB1.out.trans (this.2.mono (by rw[hz1];omega)),_,rfl,this.1.low (by rw[hz1];omega)⟩
   generalize (letP r (.slice np nn nc) es es.length).flatMap ptC2=XS at*;go_wp2_with (first
    |(at_builtin;refine wpList_append_lies _ rfl (.tmp 22) (.tmp 28) 299 rfl 0 186 ii _ 2 40 Tryz.underlying299 hii hi0 hi1 hi2 rfl (by omega) (.slice vp es.length vc) es.length XS rfl (HOWN.out.alloc _) ⟨wr.heap.size,0,none⟩ 1 1 [.iface b.1 b.2,.slice np nn nc] rfl rfl (by simpa using World.news_of_block (heap_alloc_new wr (Obj.cells #[.iface b.1 b.2,.slice np nn nc] 186))) (by intro u hu;simp at hu;rcases hu with rfl|rfl<;>rfl) (by omega) (by unfold maxLen;omega) (by omega) (Nat.zero_le _) _ rfl ?_;intro g1 k1 w3 hown hgrow hat hlt1;have HPR:=hid (HRW.out w3 g1 k1 hgrow hat hlt1 hown);clear hown hgrow hat hlt1))
   go_ret;exact HPR.out
structure KnAt (w:World) (K:Nat) (v:Value) (l:Nms):Prop where
 nm:NmAt w v l
 cap:∃p c,v=.slice p l.length c∧l.length<=c∧(p=none->c=0)
 nk:v.ownBlock≠some K
theorem NmAt.blk{w:World}{v:Value}{l:Nms}(h:NmAt w v l){w':World}(hz:w.heap.size<=w'.heap.size)(e:∀b,v.ownBlock=some b->b<w.heap.size->w'.heap[b]?=w.heap[b]?):NmAt w' v l:=by
 obtain⟨p,c,rfl,hc⟩:=h;refine⟨p,c,rfl,λhl=>?_⟩;obtain⟨g,o,rfl,hg,hx⟩:=hc hl;have eb:=e g rfl hg;exact⟨g,o,rfl,Nat.lt_of_lt_of_le hg hz,λi hi=>⟨by rw[World.cell?_of_block (a:=⟨g,o+i*2,none⟩) eb];exact(hx i hi).1,by rw[World.cell?_of_block (a:=⟨g,o+i*2+1,none⟩) eb];exact(hx i hi).2⟩⟩
theorem KnAt.ef{w w':World}{K:Nat}{v:Value}{l:Nms}(h:KnAt w K v l)(hE:EF K w w'):KnAt w' K v l:=
 ⟨h.nm.blk hE.size λb hb hl=>hE.block b hl (λe=>h.nk (by rw[hb,e])),h.cap,h.nk⟩
theorem KnAt.keep{w w':World}{K:Nat}{v:Value}{l:Nms}(h:KnAt w K v l)(hb:Below w.heap.size w w'):KnAt w' K v l:=⟨h.nm.keep hb,h.cap,h.nk⟩
theorem KnAt.nil(w:World)(K:Nat):KnAt w K (.slice none 0 0) []:=⟨⟨none,0,rfl,λh=>absurd rfl h⟩,⟨none,0,rfl,Nat.le_refl _,λ_=>rfl⟩,λh=>by cases h⟩
theorem KnAt.of_row{w:World}{K lo:Nat}{v:Value}{l:Nms}(h:NmsO w lo v l)(hn:v.ownBlock≠some K):KnAt w K v l:=by
 refine⟨h.nm,?_,hn⟩;rcases h.own.2 with⟨rfl,h0⟩|⟨g,cap,cur,rfl,-,-,hc,-⟩
 ·exact⟨none,0,by rw[h0],by omega,λ_=>rfl⟩
 ·exact⟨_,cap,rfl,hc,λe=>by cases e⟩
theorem clip_any{w:World}{p:Option Addr}{n c:Nat}(hc:n<=c)(hp:p=none->c=0)(hn:n<=1000000):Calls Tryz.prog 115 #[.slice p n c] w λe w'=>e=.returned (.slice p n n)∧w'=w:=by
 have i1:(n:Int)<=(c:Int):=by omega
 have i0:(0:Int)<=(n:Int):=by omega
 have i2:¬((n:Int)<0):=by omega
 have i3:¬((c:Int)<(n:Int)):=by omega
 cases p with
 |none=>
  obtain rfl:=hp rfl;obtain rfl:n=0:=by omega
  go_enter Tryz.func115,Tryz.ntmps115;go_wp2;go_ret;exact⟨rfl,rfl⟩
 |some a=>
  go_enter Tryz.func115,Tryz.ntmps115;go_wp2;go_ret;exact⟨rfl,rfl⟩
theorem nm_cells{w:World}{g o:Nat}{l:Nms}(h:∀i (hi:i<l.length),w.cell? ⟨g,o+i*2,none⟩=some (.string l[i].1)∧w.cell? ⟨g,o+i*2+1,none⟩=some (.int .i64 (l[i].2:Int))):∀j u,(l.flatMap wC)[j]?=some u->w.cell? ((⟨g,o,none⟩:Addr).add j)=some u:=by
 intro j u hu;have hlen:(l.flatMap wC).length=l.length*2:=flat2_len _ _ l;have hj:j<l.length*2:=by
  rw[<-hlen];exact(List.getElem?_eq_some_iff.1 hu).1
 rw[Addr.add_lit];have hm:j / 2<l.length:=by omega
 have hc:=flat_wC l (j / 2) hm;rcases Nat.mod_two_eq_zero_or_one j with h0|h1
 ·have ej:j / 2*2=j:=by omega
  rw[ej]at hc;rw[hc.1]at hu;have:=(h (j / 2) hm).1;rw[ej]at this;rw[this];exact hu
 ·have ej:j / 2*2+1=j:=by omega
  rw[ej]at hc;rw[hc.2]at hu;have:=(h (j / 2) hm).2;rw[Nat.add_assoc,ej]at this;rw[this];exact hu
theorem wC_one(l:Nms):∀u∈l.flatMap wC,u.oneCell'=true:=by
 intro u hu;obtain⟨x,-,hx⟩:=List.mem_flatMap.1 hu;simp only[wC,List.mem_cons,List.not_mem_nil,or_false]at hx;rcases hx with rfl|rfl<;>rfl
theorem clip_append{w:World}{K:Nat}{kp:Option Addr}{known ns:Nms}{nv:Value}(hk:NmAt w (.slice kp known.length known.length) known)(hp:kp=none->known.length=0)(hkb:(Value.slice kp known.length known.length).ownBlock≠some K)(hK:K<w.heap.size)(hn:NmAt w nv ns)(hl:known.length+ns.length<=100000)(ty:TypeId):
 ∃v' w',(Builtin.append_ #[105,105] ty #[.slice kp known.length known.length,nv]).run Tryz.prog w=.ok v' w'∧Below w.heap.size w w'∧KnAt w' K v' (known++ns):=by
 obtain⟨ii,hii,hij⟩:=Option.map_eq_some_iff.1 Tryz.nameI;simp only[Prod.mk.injEq]at hij;obtain⟨hi0,hi1,hi2⟩:=hij;obtain⟨np,nc,rfl,hnc⟩:=hn;by_cases h0:ns=[]
 ·subst h0;refine⟨.slice kp known.length known.length,w,?_,Below.refl _ _,?_⟩
  ·refine run_append_nothing w _ _ ty 170 ii Tryz.underlying105 hii kp _ _ (Nat.le_refl _) _ ?_;cases np with
   |none=>exact Src.ofNil w Tryz.underlying105 nc
   |some a=>exact Src.ofSlice w Tryz.underlying105 a 0 nc [] (by simp) (λj u h=>by simp at h) (λu h=>by cases h)
  ·rw[List.append_nil];exact⟨hk,⟨kp,known.length,rfl,Nat.le_refl _,hp⟩,hkb⟩
 ·obtain⟨g,o,rfl,hg,hx⟩:=hnc h0;have hpos:0<ns.length:=List.length_pos_iff.2 h0;have hnl:(ns.flatMap wC).length=ns.length*2:=flat2_len _ _ ns;have hkl:(known.flatMap wC).length=known.length*2:=flat2_len _ _ known;have fin:∀v' w',w'.ownsRow w.heap.size 170 2 v' (known.length+ns.length) (known.flatMap wC++ns.flatMap wC)->w.grownBy w' none->Below w.heap.size w w'∧KnAt w' K v' (known++ns):=by
   intro v' w' hown hgr;have hrow:NmsO w' w.heap.size v' (known++ns):=by
    refine⟨?_,λ_ _=>trivial,?_,λb hb=>?_⟩
    ·rw[List.length_append,List.flatMap_append];exact⟨hown.1,by
      rcases hown.2 with⟨h1,h2⟩|⟨g',cap,cur,h1,h2,h3⟩
      ·exact Or.inl ⟨h1,h2⟩
      ·exact Or.inr ⟨g',cap,cur,h1,Nat.zero_le _,h3⟩⟩
    ·unfold rowB;rw[show((known++ns).flatMap λ_=>([]:List Nat))=[] by simp,List.append_nil];exact vB_nodup _
    ·unfold rowB at hb;rw[show((known++ns).flatMap λ_=>([]:List Nat))=[] by simp,List.append_nil]at hb;exact hown.lt b (mem_vB.1 hb)
   refine⟨(Below.refl _ _).grown hgr (Nat.le_refl _) (λb hb=>by cases hb),KnAt.of_row hrow λe=>?_⟩;have:=(hrow.rg K (List.mem_append_left _ (mem_vB.2 e))).1;omega
  have hb63:known.length+ns.length<=maxLen:=by unfold maxLen;omega
  cases kp with
  |some b=>
   have hkc:∀j u,(known.flatMap wC)[j]?=some u->w.cell? (b.add j)=some u:=by
    by_cases hk0:known=[]
    ·subst hk0;intro j u h;simp at h
    ·obtain⟨p',c',e1,hc'⟩:=hk;obtain⟨g',o',e2,-,hx'⟩:=hc' hk0;cases e1;cases e2;exact nm_cells hx'
   obtain⟨v',w',hrun,r1,r2⟩:=run_append_arg_grows (P:=Tryz.prog) w 105 ty 170 ii _ 2 24 Tryz.underlying105 hii hi0 hi1 hi2 rfl (by omega) b known.length known.length (known.flatMap wC) hkl hkc ⟨g,o,none⟩ ns.length nc (ns.flatMap wC) hnl (nm_cells hx) (by omega) hb63 (by omega);exact⟨v',w',hrun,fin v' w' r1 r2⟩
  |none=>
   have hz:=hp rfl;obtain rfl:known=[]:=List.eq_nil_of_length_eq_zero hz;obtain⟨v',w',hrun,r1,r2,_⟩:=run_append_own (P:=Tryz.prog) w w.heap.size 105 ty 170 ii _ 2 24 Tryz.underlying105 hii hi0 hi1 hi2 rfl (by omega) (.slice none 0 0) 0 [] (World.ownsRow_nil w _ _ _) ⟨g,o,none⟩ ns.length nc (ns.flatMap wC) hnl (nm_cells hx) (wC_one ns) (by simpa using hb63) (by simp at hl;omega) (Nat.le_refl _);exact⟨v',w',hrun,fin v' w' r1 r2⟩
theorem step_clip{ops:Array Oper}{o:Oper}{a:Act}{Kc:Act->World->Prop}{Q:Exit->Act->World->Prop}{E:Prop}{w:World}{K:Nat}{kp:Option Addr}{known ns:Nms}{nv:Value}(hgd:o.guard=none)(s x:Operand)(ho:o.op=.call {callee:=.builtin .append,args:=#[s,x],argTypes:=#[105,105]})
 (hs:a.eval s=.slice kp known.length known.length) (hx:a.eval x=nv) (hk:NmAt w (.slice kp known.length known.length) known) (hp:kp=none->known.length=0) (hkb:(Value.slice kp known.length known.length).ownBlock≠some K) (hK:K<w.heap.size) (hn:NmAt w nv ns) (hl:known.length+ns.length<=100000)
 (h:∀v' w',Below w.heap.size w w'->KnAt w' K v' (known++ns)->Kc (a.put o.dst v') w'):if Region.wanted o (yielded ops a.tmps)=true then Oper.wp Tryz.prog o a w Kc Q else E:=by
 have hw:Region.wanted o (yielded ops a.tmps)=true:=by simp[Region.wanted,hgd]
 rw[if_pos hw];obtain⟨v',w',hr,h1,h2⟩:=clip_append hk hp hkb hK hn hl o.type;unfold Oper.wp execOp;simp only[ho,resolve,invoke,builtin,Sem.run_bind,Sem.run_pure,Result.andThen_ok,List.map_toArray,List.map_cons,List.map_nil,hs,hx,hr];exact h v' w' h1 h2
def ntF(st:LkT)(l:List (Nat×Nat)):LkT:=l.foldl (λst x=>noteP st (kIx x.1) x.2) st
theorem ntF_app(st:LkT)(l m:List (Nat×Nat)):ntF st (l++m)=ntF (ntF st l) m:=List.foldl_append ..
theorem fK_app:∀(a b:Nms) (n:Nat),fK n (a++b)=fK n a++fK (n+a.length) b
 |[],b,n=>by rw[List.nil_append,List.length_nil,Nat.add_zero,fK,List.nil_append]
 |(t,pl)::a,b,n=>by rw[List.cons_append,fK,fK,fK_app a b,List.append_assoc,List.length_cons,show n+1+a.length=n+(a.length+1) by omega]
theorem fK_take{ns:Nms}{k:Nat}(n:Nat)(hk:k<ns.length):fK n (ns.take (k+1))=fK n (ns.take k)++(if 20<=n+k then [(3,ns[k].2)] else []):=by
 rw[List.take_succ_eq_append_getElem hk,fK_app,List.length_take,Nat.min_eq_left (by omega)];rw[show ns[k]=(ns[k].1,ns[k].2) from rfl,fK,fK,List.append_nil]
structure LkW (B w:World) (K:Nat) (adr:Nat->Addr) (gv:Value) (Gn:Nms) (st:LkT):Prop where
 pb:PB B w K adr
 ls:LS w K gv adr st
 g:KnAt w K gv Gn
section
variable {B w w':World} {K:Nat} {adr:Nat->Addr} {gv:Value} {Gn:Nms} {st st':LkT}
theorem LkW.ef(h:LkW B w K adr gv Gn st)(hE:EF K w w')(hL:LS w' K gv adr st'):LkW B w' K adr gv Gn st':=⟨h.pb.ef hE,hL,h.g.ef hE⟩
theorem LkW.keep(h:LkW B w K adr gv Gn st)(hb:Below w.heap.size w w'):LkW B w' K adr gv Gn st:=h.ef (EF.of_below hb) (h.ls.below hb)
end
def gfn(Gn:Nms)(t:ByteArray):Bool:=inB t (Gn.map (·.1)) 0
def LkRes(K:Nat)(gv:Value)(adr:Nat->Addr)(w:World)(st:LkT)(e:Ending)(w':World):Prop:=e=.returned (.tuple #[])∧EF K w w'∧LS w' K gv adr st
def LkEC(B:World)(K:Nat)(adr:Nat->Addr)(gv:Value)(Gn:Nms)(d:Nat):Prop:=∀(w:World) (v:Value) (e:Ex) (bs:List Nat) (kv:Value) (known:Nms) (st:LkT),LkW B w K adr gv Gn st->PX d w (v,e,bs)->K∉bs->(∀b∈bs,b<w.heap.size)->XBnd d e->XLen d e->KnAt w K kv known->known.length+2001*d<=100000->
 Calls Tryz.prog 114 #[.pointer (some ⟨K,0,none⟩),v,kv] w λe' w'=>LkRes K gv adr w (ntF st (gE (gfn Gn) d (known.map (·.1)) e)) e' w'
def LkPC(B:World)(K:Nat)(adr:Nat->Addr)(gv:Value)(Gn:Nms)(d:Nat):Prop:=∀(w:World) (v:Value) (e:Ex) (bs:List Nat) (nv:Value) (ns:Nms) (kv:Value) (known:Nms) (st:LkT),LkW B w K adr gv Gn st->PX d w (v,e,bs)->K∉bs->(∀b∈bs,b<w.heap.size)->XBnd d e->XLen d e->KnAt w K nv ns->KnAt w K kv known->known.length+ns.length+2001*d<=100000->
 Calls Tryz.prog 70 #[.pointer (some ⟨K,0,none⟩),.agg #[v,nv],kv] w λe' w'=>LkRes K gv adr w (ntF st (fK known.length ns++gE (gfn Gn) d (known.map (·.1)++ns.map (·.1)) e)) e' w'
theorem PX.ef{d K:Nat}{w w':World}{v:Value}{e:Ex}{bs:List Nat}(h:PX d w (v,e,bs))(hE:EF K w w')(hK:K∉bs)(hb:∀b∈bs,b<w.heap.size):PX d w' (v,e,bs):=okPX d w w' _ h hE.size λb hb'=>hE.block b (hb b hb') (λe=>hK (e▸hb'))
structure PtSt (B:World) (K:Nat) (adr:Nat->Addr) (gv:Value) (Gn:Nms) (w wr:World) (st:LkT) (n:Nat) (ns:Nms) (v nv:Value) (k:Nat):Prop where
 lk:LkW B wr K adr gv Gn (ntF st (fK n (ns.take k)))
 ef:EF K w wr
 v:V2 wr w.heap.size v nv
section
variable {B:World} {K:Nat} {adr:Nat->Addr} {gv:Value} {Gn:Nms} {w wr w':World} {st:LkT} {n:Nat} {ns:Nms} {v nv:Value} {k:Nat}
theorem PtSt.no(h:PtSt B K adr gv Gn w wr st n ns v nv k)(hk:k<ns.length)(hn:¬20<=n+k)(o:Obj):PtSt B K adr gv Gn w (wr.alloc o) st n ns v nv (k+1):=by
 have hb:Below wr.heap.size wr (wr.alloc o):=(Below.refl _ _).alloc (Nat.le_refl _) _;refine⟨?_,h.ef.trans (EF.of_below hb),h.v.keep hb⟩;rw[fK_take n hk,if_neg hn,List.append_nil];exact h.lk.keep hb
theorem PtSt.yes(h:PtSt B K adr gv Gn w wr st n ns v nv k)(hKw:K<w.heap.size)(hk:k<ns.length)(hn:20<=n+k)(o:Obj):Calls Tryz.prog 113 #[.pointer (some ⟨K,0,none⟩),.iface 447 (.pointer (some (adr 13))),.int .i64 (ns[k].2:Int)] (wr.alloc o) λe w'=>e=.returned (.tuple #[])∧PtSt B K adr gv Gn w w' st n ns v nv (k+1):=by
 have hb:Below wr.heap.size wr (wr.alloc o):=(Below.refl _ _).alloc (Nat.le_refl _) _;refine(note_any 13 ns[k].2 (h.lk.keep hb).ls).mono ?_;rintro e w' ⟨rfl,hE,hL⟩;refine⟨rfl,?_,(h.ef.trans (EF.of_below hb)).trans hE,(h.v.keep hb).ef hE (by omega)⟩;rw[fK_take n hk,if_pos hn,ntF_app];exact(h.lk.keep hb).ef hE hL
end
theorem NmAt.at_{w:World}{p:Option Addr}{n c:Nat}{l:Nms}(h:NmAt w (.slice p n c) l){k:Nat}(hk:k<l.length):∃g o,p=some ⟨g,o,none⟩∧w.cell? ⟨g,o+k*2,none⟩=some (.string l[k].1)∧w.cell? ⟨g,o+k*2+1,none⟩=some (.int .i64 (l[k].2:Int)):=by
 obtain⟨p',c',e,hc⟩:=h;cases e;obtain⟨g,o,rfl,-,hx⟩:=hc (λe=>by rw[e]at hk;simp at hk);exact⟨g,o,rfl,hx k hk⟩
theorem part_of{B:World}{K:Nat}{adr:Nat->Addr}{gv:Value}{Gn:Nms}{d:Nat}(hE:LkEC B K adr gv Gn d):LkPC B K adr gv Gn d:=by
 intro w v e bs nv ns kv known st hw hx hK hbs hxb hxl hn hk hl;obtain⟨vt,vx,rfl⟩:=hx.if_;obtain⟨np,nc,rfl,hnc,hnp⟩:=hn.cap;obtain⟨kp,kc,rfl,hkc,hkp⟩:=hk.cap;have hKl:=hw.ls.lt;have HN:=hid hn;have HK:=hid hk;have HR0:Hid (PtSt B K adr gv Gn w (w.alloc (.cells #[.iface vt vx,.slice np ns.length nc] 186)) st known.length ns (.iface vt vx) (.slice np ns.length nc) 0):=by
  have hb:Below w.heap.size w (w.alloc (.cells #[.iface vt vx,.slice np ns.length nc] 186)):=(Below.refl _ _).alloc (Nat.le_refl _) _;exact⟨hw.keep hb,EF.of_below hb,by simp,by simp,by simp,by simp⟩
 have HF:Hid (∀wr v' X,PtSt B K adr gv Gn w wr st known.length ns (.iface vt vx) (.slice np ns.length nc) ns.length->Below wr.heap.size wr X->KnAt X K v' (known++ns)->Calls Tryz.prog 114 #[.pointer (some ⟨K,0,none⟩),.iface vt vx,v'] X λe' w'=>LkRes K gv adr w (ntF st (fK known.length ns++gE (gfn Gn) d (known.map (·.1)++ns.map (·.1)) e)) e' w'∧V2 w' w.heap.size (.iface vt vx) (.slice np ns.length nc)):=by
  intro wr v' X hS hb hkn;have hE1:=hS.ef.trans (EF.of_below hb);have hlk:=hS.lk;rw[List.take_length]at hlk;refine(hE X (.iface vt vx) e bs v' (known++ns) _ (hlk.keep hb) (hx.ef hE1 hK hbs) hK (λb h=>Nat.lt_of_lt_of_le (hbs b h) hE1.size) hxb hxl hkn (by rw[List.length_append];omega)).mono ?_;rintro e' w' ⟨rfl,h1,h2⟩;refine⟨⟨rfl,hE1.trans h1,?_⟩,(hS.v.keep hb).ef h1 (by omega)⟩;rw[ntF_app,<-List.map_append];exact h2
 clear hw hn hk hx hE;go_enter Tryz.func70,Tryz.ntmps70;go_wp2;go_loopw [11] (λjv wr=>∃k:Nat,k<=ns.length∧jv=.int .i64 (k:Int)∧Hid (PtSt B K adr gv Gn w wr st known.length ns (.iface vt vx) (.slice np ns.length nc) k)) (λjv _=>ns.length-(intOf jv).toNat)
 case atStart=>exact⟨0,Nat.zero_le _,rfl,HR0.out⟩
 case round=>
  clear HR0;obtain⟨k,hk,rfl,HS⟩:=hrel;rename World=>wr
  by_cases hlt:k<ns.length
  ·have h0:(0:Int)<=(k:Int):=by omega
   have h1:(k:Int)<(ns.length:Int):=by omega
   obtain⟨g,o,rfl,c0,c1⟩:=(HN.out.ef HS.out.ef).nm.at_ hlt;have cd:=HS.out.lk.pb.sy.dp;have cdo:=λob=>alloc_old wr ob _ _ _ cd;by_cases h20:20<=known.length+k
   ·have i1:(20:Int)<=(known.length:Int)+(k:Int):=by omega
    have HY:=hid (HS.out.yes hKl hlt h20);clear hnp hnc;go_wp2_with (first
     |(go_at_call 113;refine(HY.out _).mono ?_;rintro e' w2 ⟨rfl,hs2⟩;have HS2:=hid hs2;clear hs2))
    exact⟨⟨k+1,by omega,by go_num,HS2.out⟩,by simp[intOf];omega⟩
   ·have i1:¬(20:Int)<=(known.length:Int)+(k:Int):=by omega
    have HY:=hid (HS.out.no hlt h20);clear hnp hnc;go_wp2;exact⟨⟨k+1,by omega,by go_num,HY.out _⟩,by simp[intOf];omega⟩
  ·obtain rfl:k=ns.length:=by omega
   have hge:¬(ns.length:Int)<(ns.length:Int):=by omega
   have hbd:Below wr.heap.size wr wr.drew:=below_drew1 (Below.refl _ _);obtain⟨s0,s1,-,-⟩:=HS.out.v.keep hbd;have HKD:=hid ((HK.out.ef HS.out.ef).keep hbd);have HND:=hid ((HN.out.ef HS.out.ef).keep hbd);have HKN:Hid (NmAt wr.drew (.slice kp known.length known.length) known):=by
    obtain⟨p',c',e1,hc⟩:=HKD.out.nm;cases e1;exact⟨kp,_,rfl,hc⟩
   have HKP:Hid (kp=none->known.length=0):=λh=>by have:=hkp h;omega
   have HKB:Hid ((Value.slice kp known.length known.length).ownBlock≠some K):=by
    show _≠_;have:=HK.out.nk;cases kp<;>exact this
   have HKL:Hid (K<wr.drew.heap.size):=Nat.lt_of_lt_of_le hKl (Nat.le_trans HS.out.ef.size (Nat.le_refl _));have hkn2:known.length<=1000000:=by omega
   have hcl:known.length+ns.length<=100000:=by omega
   have HX:=hid (λv' X (hb:Below wr.drew.heap.size wr.drew X)=>HF.out wr v' X HS.out (hbd.trans hb));clear HF HN HK;go_upto_region 7 with(fail)
   go_region_held_law (λw'=>w'.cell? ⟨w.heap.size,0,none⟩=some (.iface vt vx)∧w'.cell? ⟨w.heap.size,1,none⟩=some (.slice np ns.length nc)) (exact⟨by assumption,by assumption⟩)
    (first
     |(refine step_clip (K:=K) (kp:=kp) (known:=known) (ns:=ns) rfl (.tmp 31) (.tmp 33) rfl rfl rfl HKN.out HKP.out HKB.out HKL.out HND.out.nm hcl ?_;intro v' X hbX hkX;have t0:=cell_keep hbX s0;have t1:=cell_keep hbX s1;have HX2:=hid (HX.out v' X hbX hkX);clear hbX hkX)
     |(go_at_call 115;refine(clip_any hkc hkp hkn2).mono ?_;rintro e' w2 ⟨rfl,rfl⟩)
     |(go_at_call 114;refine HX2.out.mono ?_;rintro e' w3 ⟨hr3,hv3⟩;have HR3:=hid hr3;obtain⟨rfl,-,-⟩:=hr3;obtain⟨q0,q1,-,-⟩:=hv3))
   refine bE ?_;exact HR3.out
end Go.Proofs.YtcpcplaeaimmpaaGreatDoor
