import Derived.Test.YtlanckgcjijefaaGreatDoorMx1J
set_option maxRecDepth 100000
set_option maxHeartbeats 8000000
namespace Go.Proofs.YtlanckgcjijefaaGreatDoor
open Go.RowKit Go.Sort
theorem Tryz.defI:(Tryz.prog.info? 52).map (λi=>(i.zero,i.size,i.bytes))=some (some (.agg #[.string ⟨#[]⟩,.slice none 0 0,.slice none 0 0,.pointer none]),4,72):=by kernel_rfl
def DefR(w:World)(x y:Nat)(v:Value×Value×Value)(b:ByteArray×Nms×Ex):Prop:=AltR (RX 31 w) w x y v (0,b.2)
structure XMSt (T:Nat) (w:World) (iv dv:Value) (imps:Imps) (defs:Defs) (kd:List ((Value×Value×Value)×Nat×Nat)):Prop where
 ir:w.ownsRow (T+1) 77 2 iv imps.length (impRow imps)
 dr:w.ownsRow (T+1) 52 4 dv defs.length (defRow kd defs)
 dk:Kids (DefR w) (T+1) w.heap.size kd defs
 av:∀t∈kd,∀g,(iv.ownBlock=some g∨dv.ownBlock=some g)->g<t.2.1∨t.2.2<=g
theorem DefR.same{w w':World}{x y:Nat}{v:Value×Value×Value}{b:ByteArray×Nms×Ex}(h:DefR w x y v b)(hs:SameB x y w w')(hz:y<=w'.heap.size):DefR w' x y v b:=
 AltR.same h hs λ_ hm h6=>h6.same (hs.sub hm (Nat.le_refl _)) hz
theorem XMSt.far{T:Nat}{w w':World}{iv dv:Value}{imps:Imps}{defs:Defs}{kd:List ((Value×Value×Value)×Nat×Nat)}(h:XMSt T w iv dv imps defs kd)(hz:w.heap.size<=w'.heap.size)(hs:∀k,T+1<=k->k<w.heap.size->w'.heap[k]?=w.heap[k]?):XMSt T w' iv dv imps defs kd:=by
 refine⟨row_fr h.ir λq hq=>?_,row_fr h.dr λq hq=>?_,(Kids.mono h.dk λx y v e hm hx hy hE=>?_).up hz,h.av⟩
 ·have h1:=h.ir.lt q (mem_vB.1 hq);exact hs q h1.1 h1.2
 ·have h1:=h.dr.lt q (mem_vB.1 hq);exact hs q h1.1 h1.2
 ·exact hE.same (λk h1 h2=>hs k (by omega) (by omega)) (by omega)
theorem XMSt.ef{T:Nat}{w w':World}{iv dv:Value}{imps:Imps}{defs:Defs}{kd:List ((Value×Value×Value)×Nat×Nat)}(h:XMSt T w iv dv imps defs kd)(hE:EF T w w'):XMSt T w' iv dv imps defs kd:=h.far hE.size λk h1 h2=>hE.block k h2 (by omega)
def pDef(s:ByteArray)(known:List ByteArray)(p:Nat):Pr (ByteArray×Nms×Ex):=pb (pDecl s known p) λn q1=>pb (pNames s q1) λns q2=>pb (pE s 30 q2) λe q3=>.ok ((n,ns,e),q3)
def DRow(T:Nat)(w:World)(g cap N:Nat)(L:List Value)(v0 v1 v2 v3:Value):Prop:=L.length=N*4∧w.ownsRow (T+1) 52 4 (.slice (some ⟨g,0,none⟩) (N+1) cap) (N+1) (L++[v0,v1,v2,v3])
section
variable {T:Nat} {w w':World} {g cap N:Nat} {L:List Value} {v0 v1 v2 v3:Value}
theorem DRow.cell(h:DRow T w g cap N L v0 v1 v2 v3):w.cell? ⟨g,N*4+1,none⟩=some v1∧w.cell? ⟨g,N*4+2,none⟩=some v2∧w.cell? ⟨g,N*4+3,none⟩=some v3:=by
 obtain⟨hl,h⟩:=h;refine⟨?_,?_,?_⟩
 ·rw[h.cellAt (N*4+1) (by omega),List.getElem?_append_right (by omega),show N*4+1-L.length=1 by omega];rfl
 ·rw[h.cellAt (N*4+2) (by omega),List.getElem?_append_right (by omega),show N*4+2-L.length=2 by omega];rfl
 ·rw[h.cellAt (N*4+3) (by omega),List.getElem?_append_right (by omega),show N*4+3-L.length=3 by omega];rfl
theorem DRow.frozen(h:DRow T w g cap N L v0 v1 v2 v3)(j:Nat):w.frozen? ⟨g,j,none⟩=false:=h.2.frozenAt j
theorem DRow.lt(h:DRow T w g cap N L v0 v1 v2 v3):T+1<=g∧g<w.heap.size:=h.2.lt g rfl
theorem DRow.ef(h:DRow T w g cap N L v0 v1 v2 v3)(hE:EF T w w'):DRow T w' g cap N L v0 v1 v2 v3:=⟨h.1,row_ef h.2 hE (by omega)⟩
theorem DRow.other{j:Nat}{u:Value}(h:DRow T w g cap N L v0 v1 v2 v3):DRow T (w.setCell ⟨T,j,none⟩ u) g cap N L v0 v1 v2 v3:=
 ⟨h.1,row_fr h.2 λq hq=>Below.heap_setCell _ _ _ _ (show q≠T by have:=(h.2.lt q (mem_vB.1 hq)).1;omega)⟩
theorem DRow.set1(h:DRow T w g cap N L v0 v1 v2 v3)(u:Value):DRow T (w.setCell ⟨g,N*4+1,none⟩ u) g cap N L v0 u v2 v3:=by
 refine⟨h.1,?_⟩;have h2:=(h.2.stored (N*4+1) u).1;rw[List.set_append_right _ _ (by have:=h.1;omega),show N*4+1-L.length=1 by have:=h.1;omega]at h2;exact h2
theorem DRow.set2(h:DRow T w g cap N L v0 v1 v2 v3)(u:Value):DRow T (w.setCell ⟨g,N*4+2,none⟩ u) g cap N L v0 v1 u v3:=by
 refine⟨h.1,?_⟩;have h2:=(h.2.stored (N*4+2) u).1;rw[List.set_append_right _ _ (by have:=h.1;omega),show N*4+2-L.length=2 by have:=h.1;omega]at h2;exact h2
theorem DRow.set3(h:DRow T w g cap N L v0 v1 v2 v3)(u:Value):DRow T (w.setCell ⟨g,N*4+3,none⟩ u) g cap N L v0 v1 v2 u:=by
 refine⟨h.1,?_⟩;have h2:=(h.2.stored (N*4+3) u).1;rw[List.set_append_right _ _ (by have:=h.1;omega),show N*4+3-L.length=3 by have:=h.1;omega]at h2;exact h2
end
theorem defRow_len{kd:List ((Value×Value×Value)×Nat×Nat)}{l:Defs}(h:kd.length=l.length):(defRow kd l).length=l.length*4:=by
 unfold defRow;rw[flat4_len];simp[h]
theorem defRow_snoc{kd:List ((Value×Value×Value)×Nat×Nat)}{l:Defs}{b:ByteArray×Nms×Ex}{nv nav bv:Value}{x y:Nat}(h:kd.length=l.length):
 defRow (kd++[((nv,nav,bv),x,y)]) (l++[b])=defRow kd l++[.string b.1,nv,nav,bv]:=by
 unfold defRow;rw[List.zip_append h,List.flatMap_append];rfl
theorem TX.farset{w:World}{T g j:Nat}{s:ByteArray}{p nest err pl:Nat}{nm iv dv u:Value}(h:TX w T s p nest err pl nm iv dv)(hne:T+1<=g):TX (w.setCell ⟨g,j,none⟩ u) T s p nest err pl nm iv dv:=h.of_block (Below.heap_setCell _ _ _ _ (show T≠g by omega))
theorem NF.setHi{T B g j:Nat}{w w':World}{u:Value}(h:NF T B w w')(hg:B<=g):NF T B w (w'.setCell ⟨g,j,none⟩ u):=
 h.trans ⟨rfl,rfl,rfl,by simp,λk _ hB _=>Below.heap_setCell _ _ _ _ (show k≠g by omega)⟩
theorem ef_drew{T:Nat}{w w':World}(h:EF T w.drew w'):EF T w w':=⟨h.os,h.tape,h.output,h.size,h.block⟩
theorem TX.drew{w:World}{T:Nat}{s:ByteArray}{p nest err pl:Nat}{nm iv dv:Value}(h:TX w T s p nest err pl nm iv dv):TX w.drew T s p nest err pl nm iv dv:=h.of_block rfl
def DefRes(T:Nat)(s:ByteArray)(r:Pr (ByteArray×Nms×Ex))(pl:Nat)(nm iv:Value)(imps:Imps)(defs:Defs)(w':World):Prop:=match r with
 |.ok (b,q)=>∃dv' kd',TX w' T s q 0 0 pl nm iv dv'∧q<=s.size∧XMSt T w' iv dv' imps (defs++[b]) kd'
 |.error (c,a)=>∃q dv',TX w' T s q 0 c a nm iv dv'∧q<=s.size∧∃dp dn dc,dv'=.slice dp dn dc
theorem XMSt.push{T:Nat}{w F:World}{iv dv:Value}{imps:Imps}{defs:Defs}{kd:List ((Value×Value×Value)×Nat×Nat)}{g cap x m y:Nat}{tt:ByteArray}{ns:Nms}{e:Ex}{nv nav bd:Value}(h:XMSt T w iv dv imps defs kd)(hz:w.heap.size<=x)(hyF:y<=F.heap.size)(hxy:x<=m)(hmy:m<=y)
 (hfr:∀k,T+1<=k->k<w.heap.size->dv.ownBlock≠some k->F.heap[k]?=w.heap[k]?) (hR:DRow T F g cap defs.length (defRow kd defs) (.string tt) nv nav bd) (hg:dv.ownBlock=some g∨(w.heap.size<=g∧g<x))
 (hN:NRows F x nv nav ns) (h1:∀k,nv.ownBlock=some k->k<m) (h2:∀k,nav.ownBlock=some k->k<m) (hX:RX 31 F m y bd e):
 XMSt T F iv (.slice (some ⟨g,0,none⟩) (defs.length+1) cap) imps (defs++[(tt,ns,e)]) (kd++[((nv,nav,bd),x,y)]):=by
 have hkl:=h.dk.le;refine⟨row_fr h.ir λq hq=>?_,?_,?_,?_⟩
 ·have k1:=h.ir.lt q (mem_vB.1 hq);exact hfr q k1.1 k1.2 (row_ne h.ir h.dr (by decide) q (mem_vB.1 hq))
 ·rw[List.length_append,defRow_snoc h.dk.len];exact hR.2
 ·refine Kids.snoc (Kids.mono h.dk λx' y' v' e' hm hx hy hE=>?_) hz (by omega) hyF ⟨hN,m,hxy,hmy,h1,h2,hX⟩;exact hE.same (λk k1 k2=>hfr k (by omega) (by omega) (λh3=>by have:=h.av _ hm k (Or.inr h3);simp at this;omega)) (by omega)
 ·intro t ht k hk;rcases List.mem_append.1 ht with ht|ht
  ·have hm:=h.dk.mem t ht;rcases hk with hk|hk
   ·exact h.av t ht k (Or.inl hk)
   ·obtain rfl:g=k:=by simpa[Value.ownBlock]using hk
    rcases hg with h3|h3
    ·exact h.av t ht g (Or.inr h3)
    ·right;omega
  ·obtain rfl:=List.mem_singleton.1 ht;left
   show k<x;rcases hk with hk|hk
   ·have:=(h.ir.lt k hk).2;omega
   ·obtain rfl:g=k:=by simpa[Value.ownBlock]using hk
    rcases hg with h3|h3
    ·have:=(h.dr.lt g h3).2;omega
    ·omega
structure D2 (T:Nat) (s:ByteArray) (q1 pl:Nat) (nm iv dv:Value) (w W:World) (g cap:Nat) (defs:Defs) (kd:List ((Value×Value×Value)×Nat×Nat)) (tt:ByteArray):Prop where
 nf:NF T T w W
 tx:TX W T s q1 0 0 pl nm iv (.slice (some ⟨g,0,none⟩) (defs.length+1) cap)
 row:DRow T W g cap defs.length (defRow kd defs) (.string tt) (.slice none 0 0) (.slice none 0 0) (.pointer none)
 fr:∀k,T+1<=k->k<w.heap.size->dv.ownBlock≠some k->W.heap[k]?=w.heap[k]?
 gg:dv.ownBlock=some g∨w.heap.size<=g
structure D4 (T:Nat) (s:ByteArray) (q2 pl:Nat) (nm iv dv:Value) (w W:World) (g cap:Nat) (defs:Defs) (kd:List ((Value×Value×Value)×Nat×Nat)) (tt:ByteArray) (nv nav:Value) (ns:Nms) (x:Nat):Prop where
 nf:NF T T w W
 tx:TX W T s q2 0 0 pl nm iv (.slice (some ⟨g,0,none⟩) (defs.length+1) cap)
 row:DRow T W g cap defs.length (defRow kd defs) (.string tt) nv nav (.pointer none)
 fr:∀k,T+1<=k->k<w.heap.size->dv.ownBlock≠some k->W.heap[k]?=w.heap[k]?
 gg:dv.ownBlock=some g∨(w.heap.size<=g∧g<x)
 nr:NRows W x nv nav ns
 sz:w.heap.size<=x∧x<=W.heap.size
theorem txDef_any{T:Nat}{s:ByteArray}{p pl:Nat}{nm iv dv:Value}{w:World}{imps:Imps}{defs:Defs}{kd:List ((Value×Value×Value)×Nat×Nat)}(h:TX w T s p 0 0 pl nm iv dv)(hs:s.size<=2000)(hp:p<=s.size)(hM:XMSt T w iv dv imps defs kd)(hil:imps.length<=2000)(hdl:defs.length<=2000):
 Calls Tryz.prog 26 #[.pointer (some ⟨T,0,none⟩)] w λe w'=>e=.returned (.tuple #[])∧NF T T w w'∧DefRes T s (pDef s (imps.map (·.1)++defs.map (·.1)) p) pl nm iv imps defs w':=by
 have HDC:=hid (txDecl_any h hs hp hM.ir hM.dr hM.dk.len hil hdl);have HM:=hid hM;obtain⟨tt,htt⟩:∃tt,tokT s p=tt:=⟨_,rfl⟩;rw[htt]at HDC;clear h hM;have hrs:=row_slice HM.out.dr;obtain⟨dp,dc,rfl⟩:=hrs;obtain⟨di,hdi,hds⟩:=Option.map_eq_some_iff.1 Tryz.defI;simp only[Prod.mk.injEq]at hds;obtain⟨hd0,hd1,hd2⟩:=hds;have HPD:Hid (pDef s (imps.map (·.1)++defs.map (·.1)) p=pb (pDecl s (imps.map (·.1)++defs.map (·.1)) p) λn q1=>pb (pNames s q1) λns q2=>pb (pE s 30 q2) λe q3=>.ok ((n,ns,e),q3)):=rfl;match hd:pDecl s (imps.map (·.1)++defs.map (·.1)) p,HDC with
 |.error (c,a),HDC1=>
  have hc:=nz_decl s _ p c a hd;have he1:((c:Int)==0)=false:=by rw[beq_eq_false_iff_ne];omega
  have HE0:Hid (pDef s (imps.map (·.1)++defs.map (·.1)) p=.error (c,a)):=by show _=_;rw[HPD.out,hd];rfl
  go_enter Tryz.func26,Tryz.ntmps26;go_wp2_with (first
   |(go_at_call 24;refine HDC1.out.mono ?_;rintro e w1 ⟨rfl,hE1,q1,hT1,hq1⟩;have HE1:=hid hE1;have HT1:=hid hT1;have HQ1:=hid hq1;have b3a:=λob=>alloc_old w1 ob _ _ _ hT1.c3;clear hE1 hT1 HDC1))
  all_goals first
   |(exfalso;omega)
   |(refine bE ?_
     exact⟨rfl,NF.of_ef (HE1.out.alloc _),by rw[HE0.out];exact⟨_,_,HT1.out.alloc _,HQ1.out,_,_,_,rfl⟩⟩)
 |.ok (n,q1),HDC1=>
  have hn:tt=n:=by
   obtain⟨x,q2,h1,h2⟩:=pb_inv hd;split at h2
   ·cases h2
   ·cases h2;obtain⟨-,-,rfl,-⟩:=pName_gt hp h1;exact htt.symm
  have hfd:=fwd_decl p hp n q1 hd;rw[<-hn]at hd;have HPD2:Hid (pDef s (imps.map (·.1)++defs.map (·.1)) p=pb (pNames s q1) λns q2=>pb (pE s 30 q2) λe q3=>.ok ((tt,ns,e),q3)):=by show _=_;rw[HPD.out,hd];rfl
  clear HPD htt HDC hn hd;match hnm:pNames s q1 with
  |.error (c,a)=>
   have hc:=nz_names s q1 c a hnm;have he1:((c:Int)==0)=false:=by rw[beq_eq_false_iff_ne];omega
   have HE0:Hid (pDef s (imps.map (·.1)++defs.map (·.1)) p=.error (c,a)):=by show _=_;rw[HPD2.out,hnm];rfl
   go_enter Tryz.func26,Tryz.ntmps26;go_upto_region 2 with(first
    |(go_at_call 24;refine HDC1.out.mono ?_;rintro e w1 ⟨rfl,hE1,hT1,hq1⟩;have HE1:=hid hE1;have HT1:=hid hT1;have HQ1:=hid hq1;have HR1:=hid (row_ef HM.out.dr hE1 (by omega));have hTl:=hT1.lt;have b3a:=λob=>alloc_old w1 ob _ _ _ hT1.c3;have b7a:=λob=>alloc_old w1 ob _ _ _ hT1.c7;have hz1:=hE1.size;clear hE1 hT1 HDC1))
   go_cut [] (λwx=>∃g cap,Hid (D2 T s q1 pl nm iv (.slice dp defs.length dc) w wx g cap defs kd tt))
   case first=>
    go_region_law
     (first
     |(refine step_append_lies _ rfl (.tmp 17) (.tmp 19) 26 rfl (T+1) 52 di _ 4 72 Tryz.underlying26 hdi hd0 hd1 hd2 rfl (by omega) (.slice dp defs.length dc) defs.length (defRow kd defs) (by first|rfl|(simp[Act.eval];done)|(simp[Act.eval,Act.put];done)) ((HR1.out.alloc _).alloc _) ⟨w1.heap.size+1,0,none⟩ 1 1 [.string tt,.slice none 0 0,.slice none 0 0,.pointer none] (by first|rfl|(simp[Act.eval];done)|(simp[Act.eval,Act.put];done)) rfl (by have h:=World.news_of_block (heap_alloc_new (w1.alloc (Obj.cells #[.string tt,.slice none 0 0,.slice none 0 0,.pointer none] 52)) (Obj.cells #[.string tt,.slice none 0 0,.slice none 0 0,.pointer none] 52));simpa using h) (by intro u hu;simp at hu;rcases hu with rfl|rfl|rfl|rfl<;>rfl) (by omega) (by unfold maxLen;omega) (by omega) (by simp;omega) (w1.heap.size+2) (by simp) ?_;intro g cap w2 hown2 hgrow0 hat2 hlt2;have hgrow2:=grown_drew hgrow0;clear hgrow0;have HG2:=hid hgrow2;have HAT:=hid hat2;have HR2:=hid (show DRow T w2 g cap defs.length (defRow kd defs) (.string tt) (.slice none 0 0) (.slice none 0 0) (.pointer none) from⟨defRow_len HM.out.dk.len,hown2⟩);have hT2:=(HT1.out.alloc (Obj.cells #[.string tt,.slice none 0 0,.slice none 0 0,.pointer none] 52)).grown hgrow2 (λg hg=>by have:=(HR1.out.lt g hg).1;omega);have HT2:=hid hT2;have i7:=hT2.c7;have if7:=hT2.f 7 (by omega);have hTF:=hT2.setDv (.slice (some ⟨g,0,none⟩) (defs.length+1) cap);have HTF:=hid hTF;have o3:=hTF.c3;have o7:=hTF.c7;have hz2:=hgrow2.size;simp at hz2;clear hown2 hgrow2 hat2 hT2 hTF))
    all_goals
     go_wp2_with fail
     go_meet
     refine⟨g,cap,((NF.of_ef (HE1.out.alloc _)).grown HG2.out (λg hg=>by have:=(HR1.out.lt g hg).1;omega)).set _,HTF.out,HR2.out.other,λk h1 h2 h3=>?_,?_⟩
     ·rw[Below.heap_setCell _ _ _ _ (show k≠T by omega),HG2.out.block k (by simp;omega) (λh=>h3 h.symm),heap_alloc_old _ _ (by simp;omega),heap_alloc_old _ _ (by omega),HE1.out.block k h2 (by omega)]
     ·rcases HAT.out with h1|h1
      ·exact Or.inl h1
      ·right;omega
   case rest=>
    rename World=>W
    obtain⟨g,cap,HK⟩:=hcut;have HQ1:Hid (q1<=s.size):=hfd.2;have o7:=HK.out.tx.c7;go_wp2;all_goals
     go_region_with ((go_at_call 46;refine(txNames_any HK.out.tx.drew hs HQ1.out).mono ?_;rintro e0 w3 ⟨hE30,hA3,nv,nav,rfl,⟨⟨na,nn,nc,rfl⟩,⟨pa,pn,pc,rfl⟩⟩,hN3⟩;have hE3:=ef_drew hE30;clear hE30;rw[hnm]at hA3 hN3;have HE3:=hid hE3;have HN3:=hid hN3;have hR3:=HK.out.row.ef hE3;have HR3:=hid hR3;obtain⟨u1,u2,u3⟩:=hR3.cell;have uf1:=hR3.frozen (defs.length*4+1);obtain⟨-,u5,-⟩:=(hR3.set1 (.slice na nn nc)).cell;have uf2:=(hR3.set1 (.slice na nn nc)).frozen (defs.length*4+2);have hz3:=hE3.size;obtain⟨q3,hT3,hq3⟩:=hA3;have HQ3:=hid hq3;have HT3:=hid hT3;have w7:=hT3.c7;have hT4:=(hT3.farset (g:=g) (j:=defs.length*4+1) (u:=.slice na nn nc) HK.out.row.lt.1).farset (g:=g) (j:=defs.length*4+2) (u:=.slice pa pn pc) HK.out.row.lt.1;have HT4:=hid hT4;have r3:=hT4.c3;clear hT3 hT4;clear hE3 hN3 hR3))
    all_goals(try go_wp2)
    all_goals first
     |(exfalso;omega)
     |(refine bE ?_
       refine⟨rfl,?_,by rw[HE0.out];exact⟨_,_,HT4.out,HQ3.out,_,_,_,rfl⟩⟩;exact((HK.out.nf.trans (NF.of_ef HE3.out)).setHi (by have:=HK.out.row.lt.1;omega)).setHi (by have:=HK.out.row.lt.1;omega))
  |.ok (ns,q2)=>
   have hfn:=fwd_names q1 hfd.2 ns q2 hnm;have HPD3:Hid (pDef s (imps.map (·.1)++defs.map (·.1)) p=pb (pE s 30 q2) λe q3=>.ok ((tt,ns,e),q3)):=by show _=_;rw[HPD2.out,hnm];rfl
   go_enter Tryz.func26,Tryz.ntmps26;go_upto_region 2 with(first
    |(go_at_call 24;refine HDC1.out.mono ?_;rintro e w1 ⟨rfl,hE1,hT1,hq1⟩;have HE1:=hid hE1;have HT1:=hid hT1;have HQ1:=hid hq1;have HR1:=hid (row_ef HM.out.dr hE1 (by omega));have hTl:=hT1.lt;have b3a:=λob=>alloc_old w1 ob _ _ _ hT1.c3;have b7a:=λob=>alloc_old w1 ob _ _ _ hT1.c7;have hz1:=hE1.size;clear hE1 hT1 HDC1))
   go_cut [] (λwx=>∃g cap,Hid (D2 T s q1 pl nm iv (.slice dp defs.length dc) w wx g cap defs kd tt))
   case first=>
    go_region_law
     (first
     |(refine step_append_lies _ rfl (.tmp 17) (.tmp 19) 26 rfl (T+1) 52 di _ 4 72 Tryz.underlying26 hdi hd0 hd1 hd2 rfl (by omega) (.slice dp defs.length dc) defs.length (defRow kd defs) (by first|rfl|(simp[Act.eval];done)|(simp[Act.eval,Act.put];done)) ((HR1.out.alloc _).alloc _) ⟨w1.heap.size+1,0,none⟩ 1 1 [.string tt,.slice none 0 0,.slice none 0 0,.pointer none] (by first|rfl|(simp[Act.eval];done)|(simp[Act.eval,Act.put];done)) rfl (by have h:=World.news_of_block (heap_alloc_new (w1.alloc (Obj.cells #[.string tt,.slice none 0 0,.slice none 0 0,.pointer none] 52)) (Obj.cells #[.string tt,.slice none 0 0,.slice none 0 0,.pointer none] 52));simpa using h) (by intro u hu;simp at hu;rcases hu with rfl|rfl|rfl|rfl<;>rfl) (by omega) (by unfold maxLen;omega) (by omega) (by simp;omega) (w1.heap.size+2) (by simp) ?_;intro g cap w2 hown2 hgrow0 hat2 hlt2;have hgrow2:=grown_drew hgrow0;clear hgrow0;have HG2:=hid hgrow2;have HAT:=hid hat2;have HR2:=hid (show DRow T w2 g cap defs.length (defRow kd defs) (.string tt) (.slice none 0 0) (.slice none 0 0) (.pointer none) from⟨defRow_len HM.out.dk.len,hown2⟩);have hT2:=(HT1.out.alloc (Obj.cells #[.string tt,.slice none 0 0,.slice none 0 0,.pointer none] 52)).grown hgrow2 (λg hg=>by have:=(HR1.out.lt g hg).1;omega);have HT2:=hid hT2;have i7:=hT2.c7;have if7:=hT2.f 7 (by omega);have hTF:=hT2.setDv (.slice (some ⟨g,0,none⟩) (defs.length+1) cap);have HTF:=hid hTF;have o3:=hTF.c3;have o7:=hTF.c7;have hz2:=hgrow2.size;simp at hz2;clear hown2 hgrow2 hat2 hT2 hTF))
    all_goals
     go_wp2_with fail
     go_meet
     refine⟨g,cap,((NF.of_ef (HE1.out.alloc _)).grown HG2.out (λg hg=>by have:=(HR1.out.lt g hg).1;omega)).set _,HTF.out,HR2.out.other,λk h1 h2 h3=>?_,?_⟩
     ·rw[Below.heap_setCell _ _ _ _ (show k≠T by omega),HG2.out.block k (by simp;omega) (λh=>h3 h.symm),heap_alloc_old _ _ (by simp;omega),heap_alloc_old _ _ (by omega),HE1.out.block k h2 (by omega)]
     ·rcases HAT.out with h1|h1
      ·exact Or.inl h1
      ·right;omega
   case rest=>
    rename World=>W
    obtain⟨g,cap,HK⟩:=hcut;have HQ1:Hid (q1<=s.size):=hfd.2;have HQ2:Hid (q2<=s.size):=hfn.2;have o7:=HK.out.tx.c7;have hnW:=HK.out.nf.size;go_upto_region 4 with fail
    go_cut [] (λwx=>∃na nn nc pa pn pc,Hid (D4 T s q2 pl nm iv (.slice dp defs.length dc) w wx g cap defs kd tt (.slice na nn nc) (.slice pa pn pc) ns W.heap.size))
    case first=>
     go_region_with ((go_at_call 46;refine(txNames_any HK.out.tx.drew hs HQ1.out).mono ?_;rintro e0 w3 ⟨hE30,hA3,nv,nav,rfl,⟨⟨na,nn,nc,rfl⟩,⟨pa,pn,pc,rfl⟩⟩,hN3⟩;have hE3:=ef_drew hE30;clear hE30;rw[hnm]at hA3 hN3;have HE3:=hid hE3;have HN3:=hid hN3;have hR3:=HK.out.row.ef hE3;have HR3:=hid hR3;obtain⟨u1,u2,u3⟩:=hR3.cell;have uf1:=hR3.frozen (defs.length*4+1);obtain⟨-,u5,-⟩:=(hR3.set1 (.slice na nn nc)).cell;have uf2:=(hR3.set1 (.slice na nn nc)).frozen (defs.length*4+2);have hz3:=hE3.size;obtain⟨hT3,hq3⟩:=hA3;have HT3:=hid hT3;have w7:=hT3.c7;have hT4:=(hT3.farset (g:=g) (j:=defs.length*4+1) (u:=.slice na nn nc) HK.out.row.lt.1).farset (g:=g) (j:=defs.length*4+2) (u:=.slice pa pn pc) HK.out.row.lt.1;have HT4:=hid hT4;clear hT3 hT4;clear hE3 hN3 hR3))
     all_goals
      go_wp2_with fail
      go_meet
      have hgl:=HK.out.row.lt;have hnr:=(HN3.out ns q2 rfl).1;refine⟨na,nn,nc,pa,pn,pc,((HK.out.nf.trans (NF.of_ef HE3.out)).setHi (by omega)).setHi (by omega),HT4.out,(HR3.out.set1 _).set2 _,λk h1 h2 h3=>?_,?_,(NRows.set hnr hgl.2).set hgl.2,hnW,by simp;omega⟩
      ·have hkg:k≠g:=λe=>by
        rcases HK.out.gg with h4|h4
        ·exact h3 (by rw[e];exact h4)
        ·omega
       rw[Below.heap_setCell _ _ _ _ hkg,Below.heap_setCell _ _ _ _ hkg,HE3.out.block k (by omega) (by omega),HK.out.fr k h1 h2 h3]
      ·rcases HK.out.gg with h4|h4
       ·exact Or.inl h4
       ·exact Or.inr ⟨h4,hgl.2⟩
    case rest=>
     rename World=>V
     obtain⟨na,nn,nc,pa,pn,pc,HV⟩:=hcut;have v3:=HV.out.tx.c3;have v7:=HV.out.tx.c7;have hVW:=HV.out.sz;match hex:pE s 30 q2 with
     |.error (c,a)=>
      have HE0:Hid (pDef s (imps.map (·.1)++defs.map (·.1)) p=.error (c,a)):=by show _=_;rw[HPD3.out,hex];rfl
      go_wp2;all_goals
       go_region_with ((go_at_call 47;refine(txExpr_any hs 30 0 rfl _ _ _ _ _ _ HV.out.tx.drew HQ2.out).mono ?_;rintro e0 w6 ⟨hE60,hA6,o,rfl,hX6⟩;have hE6:=ef_drew hE60;clear hE60;rw[hex]at hA6 hX6;have HE6:=hid hE6;have HX6:=hid hX6;have hR6:=HV.out.row.ef hE6;have HR6:=hid hR6;obtain⟨u1,u2,u3⟩:=hR6.cell;have uf3:=hR6.frozen (defs.length*4+3);have hz6:=hE6.size;obtain⟨q3,hT3,hq3⟩:=hA6;have HQ3:=hid hq3;have w7:=hT3.c7;have HT4:=hid (hT3.farset (g:=g) (j:=defs.length*4+3) (u:=.pointer o) HK.out.row.lt.1);clear hT3;clear hE6 hX6 hR6))
      all_goals(try go_wp2)
      all_goals
       refine bE ?_;refine⟨rfl,(HV.out.nf.trans (NF.of_ef HE6.out)).setHi (by have:=HK.out.row.lt.1;omega),by rw[HE0.out];exact⟨_,_,HT4.out,HQ3.out,_,_,_,rfl⟩⟩
     |.ok (e,q3)=>
      have HE0:Hid (pDef s (imps.map (·.1)++defs.map (·.1)) p=.ok ((tt,ns,e),q3)):=by show _=_;rw[HPD3.out,hex];rfl
      go_wp2;all_goals
       go_region_with ((go_at_call 47;refine(txExpr_any hs 30 0 rfl _ _ _ _ _ _ HV.out.tx.drew HQ2.out).mono ?_;rintro e0 w6 ⟨hE60,hA6,o,rfl,hX6⟩;have hE6:=ef_drew hE60;clear hE60;rw[hex]at hA6 hX6;have HE6:=hid hE6;have HX6:=hid hX6;have hR6:=HV.out.row.ef hE6;have HR6:=hid hR6;obtain⟨u1,u2,u3⟩:=hR6.cell;have uf3:=hR6.frozen (defs.length*4+3);have hz6:=hE6.size;obtain⟨hT3,hq3⟩:=hA6;have HQ3:=hid hq3;have w7:=hT3.c7;have HT4:=hid (hT3.farset (g:=g) (j:=defs.length*4+3) (u:=.pointer o) HK.out.row.lt.1);clear hT3;clear hE6 hX6 hR6))
      all_goals(try go_wp2)
      all_goals
       refine bE ?_;have hgl:=HK.out.row.lt;have hTl:=HK.out.tx.lt;have hnr:=HV.out.nr;refine⟨rfl,(HV.out.nf.trans (NF.of_ef HE6.out)).setHi (by omega),?_⟩;rw[HE0.out];refine⟨_,_,HT4.out,HQ3.out,HM.out.push (x:=W.heap.size) (m:=V.heap.size) (y:=w6.heap.size) hVW.1 (by simp) hVW.2 hz6 (λk h1 h2 h3=>?_) (HR6.out.set3 _) HV.out.gg ((hnr.ef HE6.out (by omega)).set hgl.2) (λk hk=>(hnr.l.lt k hk).2) (λk hk=>(hnr.p.lt k hk).2) ?_⟩
       ·have hkg:k≠g:=λe=>by
         rcases HV.out.gg with h4|h4
         ·exact h3 (by rw[e];exact h4)
         ·omega
        rw[Below.heap_setCell _ _ _ _ hkg,HE6.out.block k (by omega) (by omega),HV.out.fr k h1 h2 h3]
       ·exact RX.same (HX6.out e q3 rfl) (λk h1 h2=>Below.heap_setCell _ _ _ _ (show k≠g by have:V.heap.size<=k:=h1;omega)) (by simp)
theorem Tryz.impI:(Tryz.prog.info? 77).map (λi=>(i.zero,i.size,i.bytes))=some (some (.agg #[.string ⟨#[]⟩,.int .i64 0]),2,24):=by kernel_rfl
def tImport:ByteArray:=⟨#[105,109,112,111,114,116]⟩
def tDef:ByteArray:=⟨#[100,101,102]⟩
def tModule:ByteArray:=⟨#[109,111,100,117,108,101]⟩
def knownOf(im:Imps)(df:Defs):List ByteArray:=im.map (·.1)++df.map (·.1)
def pGlobal(s:ByteArray)(im:Imps)(df:Defs)(q:Nat):Pr (Imps×Defs):=
 if tokT s q=tImport∧df=[] then pb (pDecl s (knownOf im df) (nxt s q)) λn q1=>pb (pTag s 20 q1) λa q2=>.ok ((im++[(n,a.1)],df),q2)
 else if tokT s q=tDef then pb (pDef s (knownOf im df) (nxt s q)) λb q1=>.ok ((im,df++[b]),q1)
 else .error (2,tokA s q)
def pLoop(s:ByteArray):Nat->Imps->Defs->Nat->Pr (Imps×Defs)
 |0,_,_,p=>.error (2,p)
 |f+1,im,df,p=>
  if tokT s p=tClose then (if tokT s (nxt s p)=⟨#[]⟩ then .ok ((im,df),skp s (nxt s p)) else .error (2,tokA s (nxt s p)))
  else if tokT s p=tOpen then pb (pGlobal s im df (nxt s p)) λx q3=>pb (pWant s tClose q3) λ_ q4=>pLoop s f x.1 x.2 q4
  else .error (2,tokA s p)
def pModule(s:ByteArray)(p:Nat):Pr (ByteArray×Imps×Defs):=pb (pWant s tOpen p) λ_ q1=>pb (pWant s tModule q1) λ_ q2=>pb (pName s q2) λx q3=>pb (pLoop s (s.size+1) [] [] q3) λy q4=>.ok ((x.1,y.1,y.2),q4)
theorem fwd_def{s:ByteArray}{known:List ByteArray}:Fwd s (pDef s known) 4:=by
 intro p hp b q h;obtain⟨n,q1,h1,h⟩:=pb_inv h;have k1:=fwd_decl p hp n q1 h1;obtain⟨ns,q2,h2,h⟩:=pb_inv h;have k2:=fwd_names q1 k1.2 ns q2 h2;obtain⟨e,q3,h3,h⟩:=pb_inv h;have k3:=fwd_E s 30 q2 k2.2 e q3 h3;cases h;omega
theorem nz_def(s:ByteArray)(known:List ByteArray):NZ (pDef s known):=by
 intro p c a h;rcases pb_einv h with h1|⟨n,q1,h1,h⟩
 ·exact nz_decl s _ p c a h1
 rcases pb_einv h with h1|⟨ns,q2,h1,h⟩
 ·exact nz_names s q1 c a h1
 rcases pb_einv h with h1|⟨e,q3,h1,h⟩
 ·exact nz_E s 30 q2 c a h1
 cases h
structure XMA (T:Nat) (s:ByteArray) (r:Pr (Imps×Defs)) (pl:Nat) (nm:Value) (w wr:World):Prop where
 nf:NF T T w wr
 ok:∀im df q,r=.ok ((im,df),q)->q<=s.size∧im.length+df.length<=q∧∃iv dv kd,TX wr T s q 0 0 pl nm iv dv∧XMSt T wr iv dv im df kd
 er:∀c a,r=.error (c,a)->c≠0∧∃q iv dv,TX wr T s q 0 c a nm iv dv∧q<=s.size∧∃dp dn dc,dv=.slice dp dn dc
structure ModSt (T:Nat) (s:ByteArray) (pl:Nat) (nm:Value) (w:World) (r0:Pr (Imps×Defs)) (wr:World) (r:Pr (Imps×Defs)) (f:Nat):Prop where
 ma:XMA T s r pl nm w wr
 eq:∀im df q,r=.ok ((im,df),q)->s.size+1<=f+q∧r0=pLoop s f im df q
 er:∀c a,r=.error (c,a)->r0=.error (c,a)
end Go.Proofs.YtlanckgcjijefaaGreatDoor
