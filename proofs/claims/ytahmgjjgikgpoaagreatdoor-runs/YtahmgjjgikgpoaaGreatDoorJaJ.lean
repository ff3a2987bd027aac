import Derived.Test.YtahmgjjgikgpoaaGreatDoorArgLJ
set_option maxRecDepth 100000
set_option maxHeartbeats 8000000
namespace Go.Proofs.YtahmgjjgikgpoaaGreatDoor
open Go.RowKit Go.Sort
structure Few (Os:List LObj):Prop where
 n:Os.length<=8
 g:∀O∈Os,O.globs.length*56<=140737488351232∧O.imps.length*24<=140737488351232
theorem Few.base{Os:List LObj}(h:Few Os):∀k,k<=Os.length->gBase Os k<=k*140737488355328
 |0,_=>by simp[gBase]
 |k+1,hk=>by
  have:=h.base k (by omega);have:=(h.g Os[k] (List.getElem_mem _)).1;rw[gBase_succ (by omega)];omega
def exVal:Option (Nat×Nat×Int)->Value
 |some (n,k,a)=>.tuple #[.int .i64 (n:Int),.int .i64 (k:Int),.int .i64 a]
 |none=>.tuple #[.int .i64 (-1),.int .i64 0,.int .i64 0]
theorem export_any(Os:List LObj)(v:Value)(t:ByteArray)(w:World)(h:ObjsAt w v Os)(hF:Few Os):
 Calls Tryz.prog 18 #[v,.string t] w λe w'=>e=.returned (exVal (expo Os t))∧Below w.heap.size w w':=by
 obtain⟨p,cap,rfl,hs,hI⟩:=h;have HI:Hid (∀w',Below w.heap.size w w'->ObjsIn w' p Os):=λw' hb=>hI.keep hb;have HF:=hid hF;have hn8:=hF.n;have HL:=hid (λx:ByteArray=>bqB x t);clear hI hF hs;go_enter Tryz.func18,Tryz.ntmps18;go_wp2;go_loopw [7,8] (λnv kv wr=>∃k:Nat,k<=Os.length∧nv=.int .i64 (gBase Os k:Int)∧kv=.int .i64 (k:Int)∧Hid (expo Os t=exO t (Os.drop k) k (gBase Os k)∧Below w.heap.size w wr)) (λ_ kv _=>Os.length-(intOf kv).toNat)
 case atStart=>exact⟨0,Nat.zero_le _,rfl,rfl,rfl,Below.refl _ _⟩
 case round=>
  obtain⟨k,hk,rfl,rfl,HS⟩:=hrel;rename World=>wr
  by_cases hlt:k<Os.length
  ·have h0:(0:Int)<=(k:Int):=by omega
   have h1:(k:Int)<(Os.length:Int):=by omega
   obtain⟨b,o,ip,ic,gp,gc,rfl,-,-,c2,hO⟩:=HI.out _ HS.out.2 k hlt;obtain⟨gp',gc',e,hgl,hgi⟩:=hO.globs.2.open;cases e;have HGI:=hid hgi;have HB:=hid (HF.out.base k (by omega));obtain⟨m,hm⟩:∃m,gBase Os k=m:=⟨_,rfl⟩;have HM:=hid hm;have hbm:=HB.out;have HC2:=hid c2;rw[hm]at hbm ⊢;clear hgi hO hm c2;go_wp2;go_loopw [7,9] (λnv jv wx=>∃j:Nat,j<=Os[k].globs.length∧nv=.int .i64 ((m+j:Nat):Int)∧jv=.int .i64 (j:Int)∧Hid (exG t Os[k].globs m=exG t (Os[k].globs.drop j) (m+j)∧Below wr.heap.size wr wx)) (λ_ jv _=>Os[k].globs.length-(intOf jv).toNat)
   case atStart=>exact⟨0,Nat.zero_le _,rfl,rfl,rfl,Below.refl _ _⟩
   case round=>
    obtain⟨j,hj,rfl,rfl,HX⟩:=hrel;rename World=>wx
    have d2:=cell_keep HX.out.2 HC2.out;by_cases hjt:j<Os[k].globs.length
    ·have j0:(0:Int)<=(j:Int):=by omega
     have j1:(j:Int)<(Os[k].globs.length:Int):=by omega
     obtain⟨gb,go,cp,cn,cc,rfl,g0,g1,g2,g3,-,-⟩:=HGI.out _ HX.out.2 j hjt;have HE:=hid (HX.out.1.trans (exG_at t Os[k].globs (m+j) hjt));have HKO:=hid (HS.out.1.trans (exO_at t Os (gBase Os k) hlt));rw[HM.out]at HKO;have HBX:=hid (HS.out.2.trans (HX.out.2.mono HS.out.2.size));have HLX:=hid (HL.out Os[k].globs[j].name);generalize Os[k].globs[j].name=nm at*;generalize Os[k].globs[j].arity=ar at*;generalize Os[k].globs[j].exp=ex at*;cases ex with
     |false=>
      go_wp2;go_roundw
      case rel=>exact⟨j+1,by omega,by go_num,by go_num,HE.out,HX.out.2.alloc HX.out.2.size _⟩
      case measure=>simp[intOf];omega
     |true=>
      by_cases e:nm=t
      ·have b1:(nm.toList==t.toList)=true:=by rw[HLX.out];simpa using e
       have HR:Hid (expo Os t=some (m+j,k,ar)):=by
        show _=_;rw[HKO.out,HE.out];simp[e]
       go_wp2;go_region
       go_wp2;go_ret3
       exact⟨ret_val (by rw[HR.out];rfl),(HBX.out.alloc HBX.out.size _).drew⟩
      ·have b1:(nm.toList==t.toList)=false:=by rw[HLX.out];simpa using e
       have HE2:Hid (exG t Os[k].globs m=exG t (Os[k].globs.drop (j+1)) (m+j+1)):=by
        show _=_;rw[HE.out];simp[e]
       go_wp2;go_roundw
       case rel=>exact⟨j+1,by omega,by go_num,by go_num,HE2.out,HX.out.2.alloc HX.out.2.size _⟩
       case measure=>simp[intOf];omega
    ·obtain rfl:j=Os[k].globs.length:=by omega
     have hge:¬(Os[k].globs.length:Int)<(Os[k].globs.length:Int):=by omega
     go_wp2;go_roundw
     case rel=>
      refine⟨k+1,by omega,?_,by go_num,?_,HS.out.2.trans (HX.out.2.mono HS.out.2.size)⟩
      ·rw[gBase_succ hlt,HM.out]
      ·rw[HS.out.1,exO_at t Os _ hlt,HM.out,HX.out.1,List.drop_length,gBase_succ hlt,HM.out];rfl
     case measure=>simp[intOf];omega
  ·obtain rfl:k=Os.length:=by omega
   have hge:¬(Os.length:Int)<(Os.length:Int):=by omega
   go_wp2;go_ret3
   exact⟨ret_val (by rw[HS.out.1,List.drop_length];rfl),HS.out.2⟩
theorem row_kp{w w':World}{B:Nat}{e:TypeId}{size n:Nat}{v:Value}{xs:List Value}(h:w.ownsRow B e size v n xs)(hb:Below w.heap.size w w'):w'.ownsRow B e size v n xs:=row_fr h λb hm=>hb.block b (by
 rcases h.2 with⟨h1,-⟩|⟨g,cap,cur,rfl,-,hg,-⟩
 ·subst h1;simp[vB,Value.ownBlock]at hm
 ·obtain rfl:b=g:=by simpa[vB,Value.ownBlock]using hm
  exact(Array.getElem?_eq_some_iff.1 hg).1)
theorem row_low{w:World}{B:Nat}{e:TypeId}{size n b:Nat}{v:Value}{xs:List Value}(h:w.ownsRow B e size v n xs)(hv:v.ownBlock=some b):B<=b:=by
 rcases h.2 with⟨h1,-⟩|⟨g,cap,cur,rfl,hB,-⟩
 ·subst h1;cases hv
 ·obtain rfl:g=b:=by simpa[Value.ownBlock]using hv
  exact hB
theorem row_zero{w:World}{B:Nat}{e:TypeId}{size n:Nat}{v:Value}{xs:List Value}(h:w.ownsRow B e size v n xs):w.ownsRow 0 e size v n xs:=⟨h.1,by
 rcases h.2 with hn|⟨g,cap,cur,e1,-,h3⟩
 ·exact .inl hn
 ·exact .inr ⟨g,cap,cur,e1,Nat.zero_le _,h3⟩⟩
def AltsX(X:Nat->Prop)(w:World)(v:Value)(l:List LAlt):Prop:=∃p cap,v=.slice p l.length cap∧short l.length∧∀i (h:i<l.length),∃b o,X b∧p=some ⟨b,o,none⟩∧w.cell? ⟨b,o+i*2,none⟩=some (.int .i64 l[i].tag)∧w.cell? ⟨b,o+i*2+1,none⟩=some (.int .i64 l[i].to)
def CodeX(X:Nat->Prop)(w:World)(v:Value)(l:List LIns):Prop:=∃p cap,v=.slice p l.length cap∧short l.length∧∀i (h:i<l.length),∃b o av,X b∧p=some ⟨b,o,none⟩∧w.cell? ⟨b,o+i*3,none⟩=some (.int .i64 l[i].op)∧w.cell? ⟨b,o+i*3+1,none⟩=some (.int .i64 l[i].a)∧w.cell? ⟨b,o+i*3+2,none⟩=some av∧AltsX X w av l[i].alts
theorem AltsAt.x{w w':World}{v:Value}{l:List LAlt}(h:AltsAt w v l)(hb:Below w.heap.size w w'):AltsX (λb=>b<w.heap.size) w' v l:=by
 obtain⟨p,cap,e,hs,hc⟩:=h;refine⟨p,cap,e,hs,λi hi=>?_⟩;obtain⟨b,o,e2,h0,h1⟩:=hc i hi;exact⟨b,o,block_lt_of_cell h0,e2,cell_keep hb h0,cell_keep hb h1⟩
theorem cell_same{w w':World}{b j:Nat}{v:Value}(e:w'.heap[b]?=w.heap[b]?)(h:w.cell? ⟨b,j,none⟩=some v):w'.cell? ⟨b,j,none⟩=some v:=by rw[World.cell?_of_block (a:=⟨b,j,none⟩) e];exact h
theorem AltsX.fr{X Y:Nat->Prop}{w w':World}{v:Value}{l:List LAlt}(h:AltsX X w v l)(hX:∀b,X b->b<w.heap.size->Y b∧w'.heap[b]?=w.heap[b]?):AltsX Y w' v l:=by
 obtain⟨p,cap,e,hs,hc⟩:=h;refine⟨p,cap,e,hs,λi hi=>?_⟩;obtain⟨b,o,hx,e2,h0,h1⟩:=hc i hi;obtain⟨k1,k2⟩:=hX b hx (block_lt_of_cell h0);exact⟨b,o,k1,e2,cell_same k2 h0,cell_same k2 h1⟩
theorem CodeX.fr{X Y:Nat->Prop}{w w':World}{v:Value}{l:List LIns}(h:CodeX X w v l)(hX:∀b,X b->b<w.heap.size->Y b∧w'.heap[b]?=w.heap[b]?):CodeX Y w' v l:=by
 obtain⟨p,cap,e,hs,hc⟩:=h;refine⟨p,cap,e,hs,λi hi=>?_⟩;obtain⟨b,o,av,hx,e2,h0,h1,h2,h3⟩:=hc i hi;obtain⟨k1,k2⟩:=hX b hx (block_lt_of_cell h0);exact⟨b,o,av,k1,e2,cell_same k2 h0,cell_same k2 h1,cell_same k2 h2,h3.fr hX⟩
theorem CodeX.at{X:Nat->Prop}{w:World}{v:Value}{l:List LIns}(h:CodeX X w v l):CodeAt w v l:=by
 obtain⟨p,cap,e,hs,hc⟩:=h;refine⟨p,cap,e,hs,λi hi=>?_⟩;obtain⟨b,o,av,-,e2,h0,h1,h2,p2,c2,e3,hs3,hc3⟩:=hc i hi;refine⟨b,o,av,e2,h0,h1,h2,p2,c2,e3,hs3,λj hj=>?_⟩;obtain⟨b',o',-,r⟩:=hc3 j hj;exact⟨b',o',r⟩
theorem code_rowX{X:Nat->Prop}{w:World}{B:Nat}{v:Value}{L:List (LIns×Value)}(h:w.ownsRow B 43 3 v L.length (L.flatMap insC))(hA:∀x∈L,AltsX X w x.2 x.1.alts)(hX:∀b,B<=b->X b)(hs:short L.length):CodeX X w v (L.map (·.1)):=by
 have hlo:=λb (e:v.ownBlock=some b)=>row_low h e;rcases row_at (row_zero h) with⟨rfl,hn⟩|⟨g,cap,rfl,-,hc⟩
 ·obtain rfl:L=[]:=List.eq_nil_of_length_eq_zero hn;exact⟨none,0,rfl,hs,λi hi=>absurd hi (by simp)⟩
 ·refine⟨_,cap,by rw[List.length_map],by rw[List.length_map];exact hs,λi hi=>?_⟩;have hi':i<L.length:=by simpa using hi
  obtain⟨f0,f1,f2⟩:=flat3_at (λx:LIns×Value=>Value.int .i64 x.1.op) (λx=>Value.int .i64 x.1.a) (λx=>x.2) L i hi';refine⟨g,0,L[i].2,hX g (hlo g rfl),rfl,?_⟩;rw[Nat.zero_add,hc _ (by omega),hc _ (by omega),hc _ (by omega),List.getElem_map];exact⟨f0,f1,f2,hA _ (List.getElem_mem _)⟩
theorem CodeAt.list{w:World}{v:Value}{l:List LIns}(h:CodeAt w v l):∃p cap,∃L:List (LIns×Value),v=.slice p l.length cap∧L.map (·.1)=l∧∀i (hi:i<L.length),∃b o ap an ac,p=some ⟨b,o,none⟩∧L[i].2=.slice ap an ac∧w.cell? ⟨b,o+i*3,none⟩=some (.int .i64 L[i].1.op)∧w.cell? ⟨b,o+i*3+1,none⟩=some (.int .i64 L[i].1.a)∧w.cell? ⟨b,o+i*3+2,none⟩=some (.slice ap an ac)∧AltsAt w (.slice ap an ac) L[i].1.alts:=by
 obtain⟨p,cap,e,-,hc⟩:=h;have hx:∀i,i<l.length->∃av,∀hi:i<l.length,∃b o,p=some ⟨b,o,none⟩∧w.cell? ⟨b,o+i*3,none⟩=some (.int .i64 l[i].op)∧w.cell? ⟨b,o+i*3+1,none⟩=some (.int .i64 l[i].a)∧w.cell? ⟨b,o+i*3+2,none⟩=some av∧AltsAt w av l[i].alts:=λi hi=>by
  obtain⟨b,o,av,h1,h2,h3,h4,h5⟩:=hc i hi;exact⟨av,λ_=>⟨b,o,h1,h2,h3,h4,h5⟩⟩
 have:Inhabited Value:=⟨.nilIface⟩;obtain⟨f,hf⟩:=Go.Deep.choose_lt hx;refine⟨p,cap,(List.range l.length).pmap (λi hi=>(l[i]'hi,f i)) (λi hi=>List.mem_range.1 hi),e,?_,λi hi=>?_⟩
 ·apply List.ext_getElem
  ·simp
  ·intro i h1 h2;simp
 ·have hi':i<l.length:=by simpa using hi
  obtain⟨b,o,h1,h2,h3,h4,h5⟩:=hf i hi' hi';obtain⟨ap,ac,e1,-,-⟩:=id h5;refine⟨b,o,ap,_,ac,h1,by simpa using e1,by simpa using h2,by simpa using h3,by rw[h4,e1],by rw[e1]at h5;simpa using h5⟩
theorem Tryz.insJ:(Tryz.prog.info? 43).map (λi=>(i.zero,i.size,i.bytes))=some (some (.agg #[.int .i64 0,.int .i64 0,.slice none 0 0]),3,40):=by kernel_rfl
structure Q4 (w:World) (b:Nat) (x0 x1 x2 x3:Value):Prop where
 c0:w.cell? ⟨b,0,none⟩=some x0
 c1:w.cell? ⟨b,1,none⟩=some x1
 c2:w.cell? ⟨b,2,none⟩=some x2
 c3:w.cell? ⟨b,3,none⟩=some x3
 f:∀j,w.frozen? ⟨b,j,none⟩=false
theorem Q4.lt{w:World}{b:Nat}{x0 x1 x2 x3:Value}(h:Q4 w b x0 x1 x2 x3):b<w.heap.size:=block_lt_of_cell h.c0
theorem Q4.of_block{w w':World}{b:Nat}{x0 x1 x2 x3:Value}(h:Q4 w b x0 x1 x2 x3)(e:w'.heap[b]?=w.heap[b]?):Q4 w' b x0 x1 x2 x3:=by
 have hc:∀j,w'.cell? ⟨b,j,none⟩=w.cell? ⟨b,j,none⟩:=λj=>World.cell?_of_block (a:=⟨b,j,none⟩) e;exact⟨by rw[hc];exact h.c0,by rw[hc];exact h.c1,by rw[hc];exact h.c2,by rw[hc];exact h.c3,λj=>by rw[World.frozen?_of_block (a:=⟨b,j,none⟩) e];exact h.f j⟩
theorem Q4.keep{w w':World}{b:Nat}{x0 x1 x2 x3:Value}(h:Q4 w b x0 x1 x2 x3)(hb:Below w.heap.size w w'):Q4 w' b x0 x1 x2 x3:=h.of_block (hb.block b h.lt)
theorem Q4.new(w:World)(x0 x1 x2 x3:Value)(t:TypeId):Q4 (w.alloc (.cells #[x0,x1,x2,x3] t)) w.heap.size x0 x1 x2 x3:=⟨alloc_cell w #[x0,x1,x2,x3] t 0 _ rfl,alloc_cell w #[x0,x1,x2,x3] t 1 _ rfl,alloc_cell w #[x0,x1,x2,x3] t 2 _ rfl,alloc_cell w #[x0,x1,x2,x3] t 3 _ rfl,λj=>by simp⟩
theorem Q4.put{w:World}{b:Nat}{x0 x1 x2 x3:Value}(h:Q4 w b x0 x1 x2 x3)(y0 y1 y2 y3:Value):Q4 ((((w.setCell ⟨b,0,none⟩ y0).setCell ⟨b,1,none⟩ y1).setCell ⟨b,2,none⟩ y2).setCell ⟨b,3,none⟩ y3) b y0 y1 y2 y3:=by
 have n:∀(w:World) (i j:Nat) (y:Value),i≠j->(w.setCell ⟨b,i,none⟩ y).cell? ⟨b,j,none⟩=w.cell? ⟨b,j,none⟩:=λw i j y hn=>World.cell?_setCell_other _ _ _ _ (λe=>hn (congrArg Addr.off e));refine⟨?_,?_,?_,?_,λj=>by simp only[World.frozen?_setCell];exact h.f j⟩
 ·rw[n _ _ _ _ (by omega),n _ _ _ _ (by omega),n _ _ _ _ (by omega)];exact World.cell?_setCell_same _ _ _ h.c0
 ·rw[n _ _ _ _ (by omega),n _ _ _ _ (by omega)];exact World.cell?_setCell_same _ _ _ (by rw[n _ _ _ _ (by omega)];exact h.c1)
 ·rw[n _ _ _ _ (by omega)];exact World.cell?_setCell_same _ _ _ (by rw[n _ _ _ _ (by omega),n _ _ _ _ (by omega)];exact h.c2)
 ·exact World.cell?_setCell_same _ _ _ (by rw[n _ _ _ _ (by omega),n _ _ _ _ (by omega),n _ _ _ _ (by omega)];exact h.c3)
theorem Q4.set{w:World}{b:Nat}{x0 x1 x2 x3:Value}(h:Q4 w b x0 x1 x2 x3){c j:Nat}(hc:b≠c)(u:Value):Q4 (w.setCell ⟨c,j,none⟩ u) b x0 x1 x2 x3:=h.of_block (Below.heap_setCell _ _ _ _ hc)
structure Gr (W0 wr:World) (e:TypeId) (size:Nat) (v:Value) (n:Nat) (xs:List Value):Prop where
 low:Below W0.heap.size W0 wr
 row:wr.ownsRow W0.heap.size e size v n xs
theorem Gr.next{W0 wr Z w2:World}{e:TypeId}{size n:Nat}{v:Value}{xs:List Value}(h:Gr W0 wr e size v n xs)(hb:Below wr.heap.size wr Z)(hg:Z.grownBy w2 v.ownBlock){v':Value}{n':Nat}{ys:List Value}(hown:w2.ownsRow W0.heap.size e size v' n' ys):Gr W0 w2 e size v' n' ys:=by
 have:=h.low.size;have:=hb.size;exact⟨(h.low.trans (hb.mono (by omega))).grown hg (by omega) λk hk=>row_low h.row hk,hown⟩
theorem ofn{b i j:Nat}(h:i≠j):(⟨b,i,none⟩:Addr)≠⟨b,j,none⟩:=λe=>h (congrArg Addr.off e)
def mvL(Os:List LObj)(O:LObj)(first:Nat)(L:List (LIns×Value)):List (LIns×Value):=L.map λx=>(mvI Os O first x.1,x.2)
theorem mvL_take{Os:List LObj}{O:LObj}{first:Nat}{L:List (LIns×Value)}{k:Nat}(hk:k<L.length):(mvL Os O first (L.take (k+1))).flatMap insC=(mvL Os O first (L.take k)).flatMap insC++[.int .i64 (mvI Os O first L[k].1).op,.int .i64 (mvI Os O first L[k].1).a,L[k].2]:=by
 unfold mvL;rw[List.take_succ_eq_append_getElem hk,List.map_append,List.flatMap_append];rfl
theorem mvI_op(Os:List LObj)(O:LObj)(first:Nat)(i:LIns):(mvI Os O first i).op=i.op∧(mvI Os O first i).alts=i.alts:=by unfold mvI;split<;>exact⟨rfl,rfl⟩
theorem moved_any(Os:List LObj)(v:Value)(O:LObj)(ov:Value)(j first:Nat)(w0 w:World)(h:ObjsAt w v Os)(hF:Few Os)(hO:ObjAt w0 ov O)(hbw0:Below w0.heap.size w0 w)(hj:j<O.globs.length)(hA:∀i∈O.globs[j].code,i.op=1->0<=i.a∧i.a<1000000000000000)(hl:O.globs[j].code.length<=1000000)(hf:first<10000000000000000):
 Calls Tryz.prog 19 #[v,ov,.int .i64 (j:Int),.int .i64 (first:Int)] w λe w'=>Below w.heap.size w w'∧∃cp cn cc,e=.returned (.agg #[.string O.globs[j].name,.int .i64 O.globs[j].arity,.bool O.globs[j].exp,.slice cp cn cc])∧CodeX (λb=>b<w0.heap.size∨w.heap.size<b) w' (.slice cp cn cc) (mvG Os O first O.globs[j]).code:=by
 obtain⟨ii,hii,hij⟩:=Option.map_eq_some_iff.1 Tryz.insJ;simp only[Prod.mk.injEq]at hij;obtain⟨hi0,hi1,hi2⟩:=hij;obtain⟨iv,gv,rfl,hnm,hI,hG⟩:=hO;obtain⟨ip,ic,rfl,hil,hin⟩:=(hI.keep hbw0).open;obtain⟨gp,gc,rfl,hgl,hgn⟩:=hG.open;obtain⟨gb,go,cp,cn,cc,rfl,g0,g1,g2,g3,hC,-⟩:=hgn w0 (Below.refl _ _) j hj;replace g0:=cell_keep hbw0 g0
 replace g1:=cell_keep hbw0 g1
 replace g2:=cell_keep hbw0 g2
 replace g3:=cell_keep hbw0 g3
 obtain⟨p,cap,L,e,hL,hLc⟩:=hC.list;have HBW0:=hid hbw0;obtain⟨vp0,vc0,rfl,-⟩:=id h;have HO:=hid h;have HF:=hid hF;have HIN:=hid hin;have HLC:Hid (∀i (hi:i<L.length),∃b o ap an ac,p=some ⟨b,o,none⟩∧L[i].2=.slice ap an ac∧w.cell? ⟨b,o+i*3,none⟩=some (.int .i64 L[i].1.op)∧w.cell? ⟨b,o+i*3+1,none⟩=some (.int .i64 L[i].1.a)∧w.cell? ⟨b,o+i*3+2,none⟩=some (.slice ap an ac)∧AltsAt w0 (.slice ap an ac) L[i].1.alts):=λi hi=>by
  obtain⟨b,o,ap,an,ac,h1,h2,h3,h4,h5,h6⟩:=hLc i hi;exact⟨b,o,ap,an,ac,h1,h2,cell_keep hbw0 h3,cell_keep hbw0 h4,cell_keep hbw0 h5,h6⟩
 have HL:=hid hL;have HA:=hid hA;have hll:L.length=O.globs[j].code.length:=by rw[<-hL,List.length_map]
 have hl2:L.length<=1000000:=by omega
 cases e;rw[<-hll]at g3;have HG1:Hid (∀x:List (LIns×Value),x.map (·.1)=L.map (λx=>mvI Os O first x.1)->x.map (·.1)=(mvG Os O first O.globs[j]).code):=λx hx=>by
  rw[hx];show _=O.globs[j].code.map _;rw[<-hL,List.map_map];rfl
 have HA:Hid (∀k (hk:k<L.length),L[k].1.op=1->0<=L[k].1.a∧L[k].1.a<1000000000000000):=λk hk=>hA _ (by rw[<-hL];exact List.mem_map.2 ⟨L[k],List.getElem_mem _,rfl⟩);have j0:(0:Int)<=(j:Int):=by omega
 have j1:(j:Int)<(O.globs.length:Int):=by omega
 clear h hF hin hLc hL hA hC hgn hI hG hl hll hbw0;generalize (mvG Os O first O.globs[j]).code=mc at*;generalize O.globs[j].name=gnm at*;generalize O.globs[j].arity=gar at*;generalize O.globs[j].exp=gex at*;have g0a:=λo1 o2=>alloc_old (w.alloc o1) o2 _ _ _ (alloc_old w o1 _ _ _ g0);have g1a:=λo1 o2=>alloc_old (w.alloc o1) o2 _ _ _ (alloc_old w o1 _ _ _ g1);have g2a:=λo1 o2=>alloc_old (w.alloc o1) o2 _ _ _ (alloc_old w o1 _ _ _ g2);have g3a:=λo1 o2=>alloc_old (w.alloc o1) o2 _ _ _ (alloc_old w o1 _ _ _ g3);go_enter Tryz.func19,Tryz.ntmps19;go_wp2;obtain⟨W0,hW0⟩:∃W0,W0=((w.alloc (.cells #[.string O.name,.slice ip O.imps.length ic,.slice (some ⟨gb,go,none⟩) O.globs.length gc] 50)).alloc (.cells #[.string ⟨#[]⟩,.int .i64 0,.bool false,.slice none 0 0] 46)).alloc (.cells #[.string gnm,.int .i64 gar,.bool gex,.slice cp L.length cc] 46):=⟨_,rfl⟩;have hz0:W0.heap.size=w.heap.size+1+1+1:=by rw[hW0];simp
 have hb0:Below w.heap.size w W0:=by rw[hW0];exact(((Below.refl _ w).alloc (Nat.le_refl _) _).alloc (by simp) _).alloc (by simp;omega) _
 have d1:W0.cell? ⟨w.heap.size,1,none⟩=some (.slice ip O.imps.length ic):=by rw[hW0];exact alloc_old _ _ _ _ _ (alloc_old _ _ _ _ _ (by simp))
 have HD2:Hid (Q4 W0 (w.heap.size+1) (.string ⟨#[]⟩) (.int .i64 0) (.bool false) (.slice none 0 0)):=by
  have:=(Q4.new (w.alloc (.cells #[.string O.name,.slice ip O.imps.length ic,.slice (some ⟨gb,go,none⟩) O.globs.length gc] 50)) (.string ⟨#[]⟩) (.int .i64 0) (.bool false) (.slice none 0 0) 46);rw[World.size_alloc]at this;show Q4 _ _ _ _ _ _;rw[hW0];exact this.keep ((Below.refl _ _).alloc (Nat.le_refl _) _)
 have HD3:Hid (Q4 W0 (w.heap.size+1+1) (.string gnm) (.int .i64 gar) (.bool gex) (.slice cp L.length cc)):=by
  have:=(Q4.new ((w.alloc (.cells #[.string O.name,.slice ip O.imps.length ic,.slice (some ⟨gb,go,none⟩) O.globs.length gc] 50)).alloc (.cells #[.string ⟨#[]⟩,.int .i64 0,.bool false,.slice none 0 0] 46)) (.string gnm) (.int .i64 gar) (.bool gex) (.slice cp L.length cc) 46);rw[World.size_alloc,World.size_alloc]at this;show Q4 _ _ _ _ _ _;rw[hW0];exact this
 rw[<-hW0];clear hW0 g0a g1a g2a g3a g0 g1 g2 g3;have HB0:=hid hb0;have HD1:=hid d1;clear hb0 d1;go_loopw [10,11] (λcv kv wr=>∃(k:Nat) (vp:Option Addr) (vc:Nat),k<=L.length∧cv=.slice vp k vc∧kv=.int .i64 (k:Int)∧Hid (Gr W0 wr 43 3 (.slice vp k vc) k ((mvL Os O first (L.take k)).flatMap insC))) (λ_ kv _=>L.length-(intOf kv).toNat)
 case atStart=>exact⟨0,none,0,Nat.zero_le _,rfl,rfl,Below.refl _ _,World.ownsRow_nil _ _ _ _⟩
 case round=>
  obtain⟨k,vp,vc,hk,rfl,rfl,HS⟩:=hrel;rename World=>wr
  have hq3:=HD3.out.keep HS.out.low;by_cases hlt:k<L.length
  ·have h0:(0:Int)<=(k:Int):=by omega
   have h1:(k:Int)<(L.length:Int):=by omega
   have hbw:Below w.heap.size w wr:=HB0.out.trans (HS.out.low.mono HB0.out.size);have e3:=hq3.c3;have e1:=cell_keep HS.out.low HD1.out;have HT:=hid (mvL_take (Os:=Os) (O:=O) (first:=first) hlt);have ha1:=HA.out k hlt;obtain⟨b,o,ap,an,ac,ep,ev,c0,c1,c2,-⟩:=HLC.out k hlt;rw[ev]at HT;obtain⟨⟨op,a,al⟩,hx⟩:∃x,L[k].1=x:=⟨_,rfl⟩;rw[hx]at HT ha1 c0 c1;dsimp only at ha1 c0 c1;have HOP:=hid (mvI_op Os O first ⟨op,a,al⟩);clear hx ev;have k0:=cell_keep hbw c0;have k1:=cell_keep hbw c1;have k2:=cell_keep hbw c2;subst ep;clear c0 c1 c2;have hz:=hbw.size;have hzl:=HS.out.low.size;have e1a:=λob=>alloc_old wr ob _ _ _ e1;have HBW:=hid hbw;clear hbw;go_upto_region 6 with fail
   go_cut [12] (λq wx=>q=.pointer (some ⟨wr.heap.size,0,none⟩)∧wx=wr.alloc (.cells #[.int .i64 op,.int .i64 a,.slice ap an ac] 43))
   case first=>
    go_wp2;go_meet
    exact⟨rfl,rfl⟩
   case rest=>
   obtain⟨rfl,rfl⟩:=hcut;go_step
   go_step
   go_cut [] (λwx=>Hid (C3 wx wr.heap.size (.int .i64 op) (.int .i64 (mvI Os O first ⟨op,a,al⟩).a) (.slice ap an ac)∧Below wr.heap.size wr wx))
   case first=>
    have hbn:Below wr.heap.size wr (wr.alloc (.cells #[.int .i64 op,.int .i64 a,.slice ap an ac] 43)):=(Below.refl _ _).alloc (Nat.le_refl _) _;have HBN:=hid hbn;by_cases hop:op=1
    ·subst hop;obtain⟨ha0,ham⟩:=ha1 rfl;by_cases ha:a<(O.imps.length:Int)
     ·obtain⟨m,rfl⟩:∃m:Nat,a=(m:Int):=⟨a.toNat,by omega⟩;have hm:m<O.imps.length:=by omega
      obtain⟨ib,io,rfl,i0,-,-⟩:=HIN.out _ HBW.out m hm;have i0a:=λob=>alloc_old wr ob _ _ _ i0;have HN:Hid ((mvI Os O first ⟨1,(m:Int),al⟩).a=match expo Os O.imps[m].name with|some (n,_,_)=>(n:Int)|none=>-1):=by
       show _=_;unfold mvI numb;simp only[if_true,ha,Int.toNat_natCast,List.getElem?_eq_getElem hm,Option.bind_some];cases expo Os O.imps[m].name<;>rfl
      have HE:=hid (export_any Os _ O.imps[m].name _ (HO.out.keep (HBW.out.trans (HBN.out.mono hz))) HF.out);clear hbn;generalize O.imps[m].name=tn at*;cases hex:expo Os tn with
      |none=>
       rw[hex]at HE HN;simp only[exVal]at HE;go_wp2_with (first
        |(go_at_call 18;refine HE.out.mono ?_;rintro e w5 ⟨rfl,hb5⟩;have HB5:=hid (HBN.out.trans (hb5.mono (by simp)));have hc3:=(C3.new wr (.int .i64 1) (.int .i64 (m:Int)) (.slice ap an ac) 43).keep hb5;have hf3:w5.frozen? ⟨wr.heap.size,1,none⟩=false:=(by rw[hb5.frozen (p:=⟨wr.heap.size,1,none⟩) (by simp)];simp);obtain⟨s0,s1,s2,s3⟩:=hc3;clear hb5))
       go_meet
       refine⟨⟨?_,?_,?_,?_⟩,HB5.out.setCell (Nat.le_refl _) _⟩
       ·rw[World.cell?_setCell_other _ _ _ _ (ofn (by omega))];exact s0
       ·rw[HN.out];exact World.cell?_setCell_same _ _ _ s1
       ·rw[World.cell?_setCell_other _ _ _ _ (ofn (by omega))];exact s2
       ·simpa using s3
      |some r=>
       obtain⟨n,kk,ar⟩:=r;rw[hex]at HE HN;simp only[exVal]at HE;go_wp2_with (first
        |(go_at_call 18;refine HE.out.mono ?_;rintro e w5 ⟨rfl,hb5⟩;have HB5:=hid (HBN.out.trans (hb5.mono (by simp)));have hc3:=(C3.new wr (.int .i64 1) (.int .i64 (m:Int)) (.slice ap an ac) 43).keep hb5;have hf3:w5.frozen? ⟨wr.heap.size,1,none⟩=false:=(by rw[hb5.frozen (p:=⟨wr.heap.size,1,none⟩) (by simp)];simp);obtain⟨s0,s1,s2,s3⟩:=hc3;clear hb5))
       go_meet
       refine⟨⟨?_,?_,?_,?_⟩,HB5.out.setCell (Nat.le_refl _) _⟩
       ·rw[World.cell?_setCell_other _ _ _ _ (ofn (by omega))];exact s0
       ·rw[HN.out];exact World.cell?_setCell_same _ _ _ s1
       ·rw[World.cell?_setCell_other _ _ _ _ (ofn (by omega))];exact s2
       ·simpa using s3
     ·have HN:Hid ((mvI Os O first ⟨1,a,al⟩).a=(first:Int)+a-(O.imps.length:Int)):=by
       show _=_;unfold mvI numb;simp[ha]
      go_wp2;go_meet
      rw[HN.out];exact⟨C3.new wr _ _ _ _,(Below.refl _ _).alloc (Nat.le_refl _) _⟩
    ·have HN:Hid ((mvI Os O first ⟨op,a,al⟩).a=a):=by
      show _=_;unfold mvI;simp[hop]
     go_wp2;go_meet
     rw[HN.out];exact⟨C3.new wr _ _ _ _,HBN.out⟩
   case rest=>
    rename World=>wx
    obtain⟨s0,s1,s2,-⟩:=hcut.out.1;have HBX:=hid hcut.out.2;generalize (mvI Os O first ⟨op,a,al⟩).a=a' at*;rw[HOP.out.1]at HT;have HOWN:Hid (wx.ownsRow W0.heap.size 43 3 (.slice vp k vc) k ((mvL Os O first (L.take k)).flatMap insC)):=row_kp HS.out.row HBX.out;have hzx:=HBX.out.size;clear k0 k1 k2 e1a e1 e3 hcut;go_wp2_with (first
     |(at_builtin;refine wpList_append_lies _ rfl (.tmp 67) (.tmp 69) 44 rfl W0.heap.size 43 ii _ 3 40 Tryz.underlying44 hii hi0 hi1 hi2 rfl (by omega) (.slice vp k vc) k _ rfl (HOWN.out.alloc _) ⟨wx.heap.size,0,none⟩ 1 1 [.int .i64 op,.int .i64 a',.slice ap an ac] rfl rfl (by simpa using World.news_of_block (heap_alloc_new wx (Obj.cells #[.int .i64 op,.int .i64 a',.slice ap an ac] 43))) (by intro u hu;simp at hu;rcases hu with rfl|rfl|rfl<;>rfl) (by omega) (by unfold maxLen;omega) (by omega) (by simp;omega) _ rfl ?_;intro g1 k1 w7 hown hgrow hat hlt1;have HNX:=hid (HS.out.next (HBX.out.alloc hzx _) hgrow hown);clear hown hgrow hat hlt1))
    go_roundw
    case rel=>exact⟨k+1,_,_,by omega,rfl,by go_num,by show Gr _ _ _ _ _ _ _;rw[HT.out];exact HNX.out⟩
    case measure=>simp[intOf];omega
  ·obtain rfl:k=L.length:=by omega
   have hge:¬(L.length:Int)<(L.length:Int):=by omega
   have hq2:=HD2.out.keep HS.out.low;have hf3:=hq3.f 3;obtain⟨s0,s1,s2,s3,-⟩:=id hq3;obtain⟨r0,r1,r2,r3,rf⟩:=id hq2;have rf0:=rf 0;have rf1:=rf 1;have rf2:=rf 2;have rf3:=rf 3;have hzl:=HS.out.low.size;have hzb:=HB0.out.size;go_wp2;obtain⟨t0,t1,t2,t3,-⟩:=(hq2.set (c:=w.heap.size+1+1) (j:=3) (by omega) (.slice vp L.length vc)).put (.string gnm) (.int .i64 gar) (.bool gex) (.slice vp L.length vc);refine bodyPost_ret (v:=.agg #[.string gnm,.int .i64 gar,.bool gex,.slice vp L.length vc]) (by simp[results,Tryz.results19,go_sem,t0,t1,t2,t3]) rfl ?_;have hbf:Below w.heap.size w (((((wr.setCell ⟨w.heap.size+1+1,3,none⟩ (.slice vp L.length vc)).setCell ⟨w.heap.size+1,0,none⟩ (.string gnm)).setCell ⟨w.heap.size+1,1,none⟩ (.int .i64 gar)).setCell ⟨w.heap.size+1,2,none⟩ (.bool gex)).setCell ⟨w.heap.size+1,3,none⟩ (.slice vp L.length vc)):=(((((HB0.out.trans (HS.out.low.mono hzb)).setCell (by simp;omega) _).setCell (by simp) _).setCell (by simp) _).setCell (by simp) _).setCell (by simp) _;refine⟨hbf,_,_,_,rfl,?_⟩;have hml:(mvL Os O first L).length=L.length:=by unfold mvL;rw[List.length_map]
   rw[<-HG1.out (mvL Os O first L) (by unfold mvL;rw[List.map_map];rfl)];refine code_rowX (B:=W0.heap.size) ?_ (λx hx=>?_) (λb hb=>Or.inr (by omega)) (by rw[hml];unfold short;omega)
   ·rw[hml];have hr:=HS.out.row;rw[List.take_length]at hr;refine row_fr hr λb hb=>?_;have hlo:=row_low HS.out.row (mem_vB.1 hb);rw[Below.heap_setCell _ _ _ _ (by simp;omega),Below.heap_setCell _ _ _ _ (by simp;omega),Below.heap_setCell _ _ _ _ (by simp;omega),Below.heap_setCell _ _ _ _ (by simp;omega),Below.heap_setCell _ _ _ _ (by simp;omega)]
   ·unfold mvL at hx;obtain⟨y,hy,rfl⟩:=List.mem_map.1 hx;obtain⟨i,hi,rfl⟩:=List.getElem_of_mem hy;obtain⟨b,o,ap,an,ac,-,ev,-,-,-,hal⟩:=HLC.out i hi;show AltsX _ _ L[i].2 (mvI Os O first L[i].1).alts;rw[(mvI_op Os O first L[i].1).2,ev];exact(hal.x (HBW0.out.trans (hbf.mono HBW0.out.size))).fr λb hb _=>⟨Or.inl hb,rfl⟩
structure FB (w:World) (b n:Nat) (f:Nat->Value):Prop where
 c:∀j,j<n->w.cell? ⟨b,j,none⟩=some (f j)
 fz:∀j,w.frozen? ⟨b,j,none⟩=false
 lt:b<w.heap.size
theorem FB.of_block{w w':World}{b n:Nat}{f:Nat->Value}(h:FB w b n f)(e:w'.heap[b]?=w.heap[b]?)(hz:w.heap.size<=w'.heap.size):FB w' b n f:=
 ⟨λj hj=>by rw[World.cell?_of_block (a:=⟨b,j,none⟩) e];exact h.c j hj,λj=>by rw[World.frozen?_of_block (a:=⟨b,j,none⟩) e];exact h.fz j,Nat.lt_of_lt_of_le h.lt hz⟩
theorem FB.keep{w w':World}{b n:Nat}{f:Nat->Value}(h:FB w b n f)(hb:Below w.heap.size w w'):FB w' b n f:=h.of_block (hb.block b h.lt) hb.size
theorem FB.set{w:World}{b n:Nat}{f:Nat->Value}(h:FB w b n f){c j:Nat}(hc:b≠c)(u:Value):FB (w.setCell ⟨c,j,none⟩ u) b n f:=h.of_block (Below.heap_setCell _ _ _ _ hc) (by simp)
theorem FB.grown{w w':World}{b n:Nat}{f:Nat->Value}{r:Option Nat}(h:FB w b n f)(hg:w.grownBy w' r)(hr:r≠some b):FB w' b n f:=h.of_block (hg.block b h.lt (λe=>hr e.symm)) hg.size
def rowF(s:Nat)(zs:List Value)(cs:List (List Value))(j:Nat):Value:=((cs[j / s]?.getD zs)[j % s]?).getD .nilIface
theorem rowF_other{s:Nat}{zs:List Value}{cs:List (List Value)}{x:List Value}{j:Nat}(h:j / s≠cs.length):rowF s zs (cs++[x]) j=rowF s zs cs j:=by
 unfold rowF;rcases Nat.lt_or_gt_of_ne h with h1|h1
 ·rw[List.getElem?_append_left h1]
 ·rw[List.getElem?_eq_none (l:=cs++[x]) (by simp;omega),List.getElem?_eq_none (l:=cs) (by omega)]
theorem rowF_at{s:Nat}{zs:List Value}{cs:List (List Value)}{j:Nat}(h:j / s<cs.length):rowF s zs cs j=(cs[j / s][j % s]?).getD .nilIface:=by
 unfold rowF;rw[List.getElem?_eq_getElem h];rfl
theorem rowF_new{s:Nat}{zs:List Value}{cs:List (List Value)}{x:List Value}{j:Nat}(h:j / s=cs.length):rowF s zs (cs++[x]) j=(x[j % s]?).getD .nilIface:=by
 rw[rowF_at (by simp;omega)];simp[h]
theorem setc{w:World}{b i j:Nat}{y:Value}(h:i≠j):(w.setCell ⟨b,i,none⟩ y).cell? ⟨b,j,none⟩=w.cell? ⟨b,j,none⟩:=World.cell?_setCell_other _ _ _ _ (ofn h)
theorem FB.put2{w:World}{b n k:Nat}{zs:List Value}{cs:List (List Value)}(h:FB w b (n*2) (rowF 2 zs cs))(hk:cs.length=k)(hn:k<n)(x0 x1:Value):FB ((w.setCell ⟨b,k*2,none⟩ x0).setCell ⟨b,k*2+1,none⟩ x1) b (n*2) (rowF 2 zs (cs++[[x0,x1]])):=by
 subst hk;have e0:=h.c (cs.length*2) (by omega);have e1:=h.c (cs.length*2+1) (by omega);refine⟨λj hj=>?_,λj=>by simp only[World.frozen?_setCell];exact h.fz j,by simpa using h.lt⟩;by_cases h1:j=cs.length*2+1
 ·subst h1;rw[World.cell?_setCell_same _ _ _ (show World.cell? _ _=some (rowF 2 zs cs (cs.length*2+1)) by rw[setc (by omega)];exact e1),rowF_new (by omega),show(cs.length*2+1) % 2=1 by omega];rfl
 ·rw[setc (Ne.symm h1)];by_cases h0:j=cs.length*2
  ·subst h0;rw[World.cell?_setCell_same _ _ _ e0,rowF_new (by omega),show(cs.length*2) % 2=0 by omega];rfl
  ·rw[setc (Ne.symm h0),h.c j hj,rowF_other (by omega)]
theorem FB.put3{w:World}{b n k:Nat}{zs:List Value}{cs:List (List Value)}(h:FB w b (n*3) (rowF 3 zs cs))(hk:cs.length=k)(hn:k<n)(x0 x1 x2:Value):FB (((w.setCell ⟨b,k*3,none⟩ x0).setCell ⟨b,k*3+1,none⟩ x1).setCell ⟨b,k*3+2,none⟩ x2) b (n*3) (rowF 3 zs (cs++[[x0,x1,x2]])):=by
 subst hk;have e0:=h.c (cs.length*3) (by omega);have e1:=h.c (cs.length*3+1) (by omega);have e2:=h.c (cs.length*3+2) (by omega);refine⟨λj hj=>?_,λj=>by simp only[World.frozen?_setCell];exact h.fz j,by simpa using h.lt⟩;by_cases h2:j=cs.length*3+2
 ·subst h2;rw[World.cell?_setCell_same _ _ _ (show World.cell? _ _=some (rowF 3 zs cs (cs.length*3+2)) by rw[setc (by omega),setc (by omega)];exact e2),rowF_new (by omega),show(cs.length*3+2) % 3=2 by omega];rfl
 ·rw[setc (Ne.symm h2)];by_cases h1:j=cs.length*3+1
  ·subst h1;rw[World.cell?_setCell_same _ _ _ (show World.cell? _ _=some (rowF 3 zs cs (cs.length*3+1)) by rw[setc (by omega)];exact e1),rowF_new (by omega),show(cs.length*3+1) % 3=1 by omega];rfl
  ·rw[setc (Ne.symm h1)];by_cases h0:j=cs.length*3
   ·subst h0;rw[World.cell?_setCell_same _ _ _ e0,rowF_new (by omega),show(cs.length*3) % 3=0 by omega];rfl
   ·rw[setc (Ne.symm h0),h.c j hj,rowF_other (by omega)]
theorem FB.made(w:World)(z:Array Value)(n:Nat)(t:TypeId)(hz:0<z.size):FB (w.alloc (.cells (madeCells z n) t)) w.heap.size n (rowF z.size z.toList []):=by
 refine⟨λj hj=>alloc_cell _ _ _ _ _ ?_,λj=>by simp,by simp⟩;have hm:j % z.size<z.size:=Nat.mod_lt _ hz;unfold rowF madeCells;rw[Array.getElem?_map,Array.getElem?_range,if_pos hj];simp[hm]
def mAlt(x:LAlt):List Value:=[.int .u8 x.tag,.int .u16 x.to]
def mAz:List Value:=[.int .u8 0,.int .u16 0]
def MA(lo:Nat)(w:World)(v:Value)(l:List LAlt):Prop:=∃B,lo<=B∧v=.slice (some ⟨B,0,none⟩) l.length l.length∧FB w B (l.length*2) (rowF 2 mAz (l.map mAlt))
theorem MA.keep{lo:Nat}{w w':World}{v:Value}{l:List LAlt}(h:MA lo w v l)(hb:Below w.heap.size w w'):MA lo w' v l:=by
 obtain⟨B,h1,h2,h3⟩:=h;exact⟨B,h1,h2,h3.keep hb⟩
theorem MA.set{lo:Nat}{w:World}{v:Value}{l:List LAlt}(h:MA lo w v l){c j:Nat}(hc:c<lo)(u:Value):MA lo (w.setCell ⟨c,j,none⟩ u) v l:=by
 obtain⟨B,h1,h2,h3⟩:=h;exact⟨B,h1,h2,h3.set (by omega) u⟩
theorem MA.low{lo lo':Nat}{w:World}{v:Value}{l:List LAlt}(h:MA lo w v l)(hl:lo'<=lo):MA lo' w v l:=by
 obtain⟨B,h1,h2,h3⟩:=h;exact⟨B,by omega,h2,h3⟩
theorem Tryz.mAltI:(Tryz.prog.info? 207).map (λi=>(i.zero,i.size,i.bytes))=some (some (.agg #[.int .u8 0,.int .u16 0]),2,4):=by kernel_rfl
theorem mAlt_make(n:Nat)(hn:n<=65536)(w:World):(Instr.makeSlice 166 (.int .i64 (n:Int)) (.int .i64 (n:Int))).run Tryz.prog w=.ok (.slice (some ⟨w.heap.size,0,none⟩) n n) (w.alloc (.cells (madeCells #[.int .u8 0,.int .u16 0] (n*2)) 207)):=by
 obtain⟨i,hi,hii⟩:=Option.map_eq_some_iff.1 Tryz.mAltI;simp only[Prod.mk.injEq]at hii;obtain⟨hz0,hz1,hz2⟩:=hii;rw[run_make (P:=Tryz.prog) w 166 207 i _ Tryz.underlying166 hi hz0 .i64 .i64 n n (by omega) (by omega) (by rw[hz2];omega) (by omega),hz1];simp[Value.cells]
theorem altsOf_any(l:List LAlt)(v:Value)(w:World)(h:AltsAt w v l)(hl:l.length<=65536)(hg:∀x∈l,0<=x.tag∧x.tag<256∧0<=x.to∧x.to<65536):
 Calls Tryz.prog 69 #[v] w λe w'=>Below w.heap.size w w'∧∃B,e=.returned (.slice (some ⟨B,0,none⟩) l.length l.length)∧MA w.heap.size w' (.slice (some ⟨B,0,none⟩) l.length l.length) l:=by
 obtain⟨p,cap,rfl,hs,hI⟩:=h.open;have HI:=hid hI;have HG:=hid (λk (hk:k<l.length)=>hg l[k] (List.getElem_mem _));have hmk:=mAlt_make l.length hl;clear h hI hg;go_enter Tryz.func69,Tryz.ntmps69;go_wp2;go_loopw [11] (λkv wr=>∃k:Nat,k<=l.length∧kv=.int .i64 (k:Int)∧Hid (Below w.heap.size w wr∧FB wr w.heap.size (l.length*2) (rowF 2 mAz ((l.take k).map mAlt)))) (λkv _=>l.length-(intOf kv).toNat)
 case atStart=>exact⟨0,Nat.zero_le _,rfl,(Below.refl _ _).alloc (Nat.le_refl _) _,FB.made w _ _ _ (by simp)⟩
 case round=>
  obtain⟨k,hk,rfl,HS⟩:=hrel;rename World=>wr
  by_cases hlt:k<l.length
  ·have h0:(0:Int)<=(k:Int):=by omega
   have h1:(k:Int)<(l.length:Int):=by omega
   obtain⟨b,o,rfl,c0,c1⟩:=HI.out _ HS.out.1 k hlt;obtain⟨t0,t1,t2,t3⟩:=HG.out k hlt;have hb:Below wr.heap.size wr (wr.alloc (.cells #[.int .i64 l[k].tag,.int .i64 l[k].to] 77)):=(Below.refl _ _).alloc (Nat.le_refl _) _;have hF1:=HS.out.2.keep hb;have d0:=hF1.c (k*2) (by omega);have d1:=hF1.c (k*2+1) (by omega);have f0:=hF1.fz (k*2);have f1:=hF1.fz (k*2+1);have HN:=hid (hF1.put2 (k:=k) (by simp;omega) hlt (.int .u8 l[k].tag) (.int .u16 l[k].to));have HT:Hid ((l.take (k+1)).map mAlt=(l.take k).map mAlt++[[.int .u8 l[k].tag,.int .u16 l[k].to]]):=by
    show _=_;rw[List.take_succ_eq_append_getElem hlt,List.map_append];rfl
   have hzw:=HS.out.1.size;have HLW:=hid HS.out.1;have w1:IntKind.u8.wrap l[k].tag=l[k].tag:=by unfold IntKind.wrap;simp[IntKind.bits,IntKind.signed];omega
   have w2:IntKind.u16.wrap l[k].to=l[k].to:=by unfold IntKind.wrap;simp[IntKind.bits,IntKind.signed];omega
   clear hb hF1 HS;generalize l[k].tag=tg at*;generalize l[k].to=tt at*;go_wp2;exact⟨⟨k+1,by omega,by go_num,((HLW.out.alloc hzw _).setCell (Nat.le_refl _) _).setCell (Nat.le_refl _) _,by rw[HT.out];exact HN.out⟩,by simp[intOf];omega⟩
  ·obtain rfl:k=l.length:=by omega
   have hge:¬(l.length:Int)<(l.length:Int):=by omega
   go_wp2;go_ret;have hF:=HS.out.2;rw[List.take_length]at hF;exact⟨HS.out.1,_,rfl,_,Nat.le_refl _,rfl,hF⟩
def mIns(x:LIns×Value):List Value:=[.int .i64 x.1.op,.int .i64 x.1.a,x.2]
def mIz:List Value:=[.int .i64 0,.int .i64 0,.slice none 0 0]
def MC(lo:Nat)(w:World)(v:Value)(l:List LIns):Prop:=∃B,∃L:List (LIns×Value),lo<=B∧v=.slice (some ⟨B,0,none⟩) l.length l.length∧L.map (·.1)=l∧FB w B (l.length*3) (rowF 3 mIz (L.map mIns))∧∀x∈L,MA (B+1) w x.2 x.1.alts
theorem MC.keep{lo:Nat}{w w':World}{v:Value}{l:List LIns}(h:MC lo w v l)(hb:Below w.heap.size w w'):MC lo w' v l:=by
 obtain⟨B,L,h1,h2,h3,h4,h5⟩:=h;exact⟨B,L,h1,h2,h3,h4.keep hb,λx hx=>(h5 x hx).keep hb⟩
theorem MC.low{lo lo':Nat}{w:World}{v:Value}{l:List LIns}(h:MC lo w v l)(hl:lo'<=lo):MC lo' w v l:=by
 obtain⟨B,L,h1,r⟩:=h;exact⟨B,L,by omega,r⟩
theorem MA.grown{lo:Nat}{w w':World}{v:Value}{l:List LAlt}{r:Option Nat}(h:MA lo w v l)(hg:w.grownBy w' r)(hr:∀b,r=some b->b<lo):MA lo w' v l:=by
 obtain⟨B,h1,h2,h3⟩:=h;exact⟨B,h1,h2,h3.grown hg λe=>by have:=hr B e;omega⟩
theorem MC.grown{lo:Nat}{w w':World}{v:Value}{l:List LIns}{r:Option Nat}(h:MC lo w v l)(hg:w.grownBy w' r)(hr:∀b,r=some b->b<lo):MC lo w' v l:=by
 obtain⟨B,L,h1,h2,h3,h4,h5⟩:=h;exact⟨B,L,h1,h2,h3,h4.grown hg (λe=>by have:=hr B e;omega),λx hx=>(h5 x hx).grown hg λb e=>by have:=hr b e;omega⟩
def NumsAt(w:World)(v:Value)(ns:List Int):Prop:=∃p cap,v=.slice p ns.length cap∧∀i (h:i<ns.length),∃b o,p=some ⟨b,o,none⟩∧w.cell? ⟨b,o+i,none⟩=some (.int .i64 ns[i])
theorem NumsAt.keep{w w':World}{v:Value}{ns:List Int}(h:NumsAt w v ns)(hb:Below w.heap.size w w'):NumsAt w' v ns:=by
 obtain⟨p,cap,e,hc⟩:=h;refine⟨p,cap,e,λi hi=>?_⟩;obtain⟨b,o,e2,h0⟩:=hc i hi;exact⟨b,o,e2,cell_keep hb h0⟩
structure GoodI (n:Nat) (i:LIns):Prop where
 g:i.op=1->0<=i.a∧i.a<(n:Int)
 l:i.alts.length<=65536
 a:∀x∈i.alts,0<=x.tag∧x.tag<256∧0<=x.to∧x.to<65536
def cdI(ns:List Int)(i:LIns):LIns:=if i.op=1 then {i with a:=ns[i.a.toNat]?.getD 0} else i
theorem Tryz.mInsI:(Tryz.prog.info? 169).map (λi=>(i.zero,i.size,i.bytes))=some (some (.agg #[.int .i64 0,.int .i64 0,.slice none 0 0]),3,40):=by kernel_rfl
theorem mIns_make(n:Nat)(hn:n<=65536)(w:World):(Instr.makeSlice 114 (.int .i64 (n:Int)) (.int .i64 (n:Int))).run Tryz.prog w=.ok (.slice (some ⟨w.heap.size,0,none⟩) n n) (w.alloc (.cells (madeCells #[.int .i64 0,.int .i64 0,.slice none 0 0] (n*3)) 169)):=by
 obtain⟨i,hi,hii⟩:=Option.map_eq_some_iff.1 Tryz.mInsI;simp only[Prod.mk.injEq]at hii;obtain⟨hz0,hz1,hz2⟩:=hii;rw[run_make (P:=Tryz.prog) w 114 169 i _ Tryz.underlying114 hi hz0 .i64 .i64 n n (by omega) (by omega) (by rw[hz2];omega) (by omega),hz1];simp[Value.cells]
structure CoS (code:List LIns) (ns:List Int) (w wr:World) (k:Nat):Prop where
 low:Below w.heap.size w wr
 l:∃L:List (LIns×Value),L.map (·.1)=(code.take k).map (cdI ns)∧FB wr w.heap.size (code.length*3) (rowF 3 mIz (L.map mIns))∧∀x∈L,MA (w.heap.size+1) wr x.2 x.1.alts
theorem CoS.next{code:List LIns}{ns:List Int}{w wr w5:World}{k:Nat}(h:CoS code ns w wr k)(hk:k<code.length)(hb:Below wr.heap.size wr w5){av:Value}(hm:MA (w.heap.size+1) w5 av code[k].alts){op a:Int}(he:cdI ns code[k]=⟨op,a,code[k].alts⟩):
 (∃v0 v1 v2,w5.cell? ⟨w.heap.size,k*3,none⟩=some v0∧w5.cell? ⟨w.heap.size,k*3+1,none⟩=some v1∧w5.cell? ⟨w.heap.size,k*3+2,none⟩=some v2)∧(∀j,w5.frozen? ⟨w.heap.size,j,none⟩=false)∧CoS code ns w (((w5.setCell ⟨w.heap.size,k*3,none⟩ (.int .i64 op)).setCell ⟨w.heap.size,k*3+1,none⟩ (.int .i64 a)).setCell ⟨w.heap.size,k*3+2,none⟩ av) (k+1):=by
 obtain⟨hl,L,h1,h2,h3⟩:=h;have hL:L.length=k:=by have:=congrArg List.length h1;simp at this;omega
 have h2':=h2.keep hb;refine⟨⟨_,_,_,h2'.c _ (by omega),h2'.c _ (by omega),h2'.c _ (by omega)⟩,h2'.fz,?_⟩;have hz:=hl.size;refine⟨(((hl.trans (hb.mono hz)).setCell (Nat.le_refl _) _).setCell (Nat.le_refl _) _).setCell (Nat.le_refl _) _,L++[(⟨op,a,code[k].alts⟩,av)],?_,?_,λx hx=>?_⟩
 ·rw[List.map_append,List.take_succ_eq_append_getElem hk,List.map_append,h1];simp[he]
 ·rw[List.map_append];exact h2'.put3 (by simp[hL]) hk _ _ _
 ·refine((?_:MA _ w5 x.2 x.1.alts).set (Nat.lt_succ_self _) _|>.set (Nat.lt_succ_self _) _).set (Nat.lt_succ_self _) _;rcases List.mem_append.1 hx with hx|hx
  ·exact(h3 x hx).keep hb
  ·obtain rfl:=List.mem_singleton.1 hx;exact hm
theorem codeOf_any(code:List LIns)(cv:Value)(ns:List Int)(nv:Value)(w:World)(h:CodeAt w cv code)(hN:NumsAt w nv ns)(hl:code.length<=65536)(hg:∀i∈code,GoodI ns.length i):
 Calls Tryz.prog 44 #[cv,nv] w λe w'=>Below w.heap.size w w'∧∃B,e=.returned (.slice (some ⟨B,0,none⟩) code.length code.length)∧MC w.heap.size w' (.slice (some ⟨B,0,none⟩) code.length code.length) (code.map (cdI ns)):=by
 obtain⟨p,cap,rfl,hs,hI⟩:=h.open;obtain⟨np,nc,rfl,hnc⟩:=id hN;have HI:=hid hI;have HN:=hid hN;have HG:=hid (λk (hk:k<code.length)=>hg code[k] (List.getElem_mem _));have hmk:=mIns_make code.length hl;clear h hI hg hN hnc;go_enter Tryz.func44,Tryz.ntmps44;go_wp2;go_loopw [13] (λkv wr=>∃k:Nat,k<=code.length∧kv=.int .i64 (k:Int)∧Hid (CoS code ns w wr k)) (λkv _=>code.length-(intOf kv).toNat)
 case atStart=>exact⟨0,Nat.zero_le _,rfl,(Below.refl _ _).alloc (Nat.le_refl _) _,[],rfl,FB.made w _ _ _ (by simp),λx hx=>by cases hx⟩
 case round=>
  obtain⟨k,hk,rfl,HS⟩:=hrel;rename World=>wr
  by_cases hlt:k<code.length
  ·have h0:(0:Int)<=(k:Int):=by omega
   have h1:(k:Int)<(code.length:Int):=by omega
   obtain⟨b,o,ap,an,ac,rfl,c0,c1,c2,hal⟩:=HI.out _ HS.out.low k hlt;obtain⟨g1,g2,g3⟩:=HG.out k hlt;have hz:=HS.out.low.size;have HAL:=hid (λX (hb:Below wr.heap.size wr X)=>(altsOf_any code[k].alts _ X (hal.keep hb) g2 g3));have HNX:=hid (λw5 (hb:Below wr.heap.size wr w5) (av:Value) (hm:MA (w.heap.size+1) w5 av code[k].alts) op a he=>HS.out.next hlt hb hm (op:=op) (a:=a) he);obtain⟨ap',ac',e,-,-⟩:=hal.open;have han:an=code[k].alts.length:=by injection e
   have HLW:=hid HS.out.low;have hbl:w.heap.size+1<=wr.heap.size:=by
    obtain⟨L,-,h2,-⟩:=HS.out.l;have:=h2.lt;omega
   clear hal HS e;obtain⟨⟨op,a,al⟩,hx⟩:∃x,code[k]=x:=⟨_,rfl⟩;rw[hx]at c0 c1 g1 HAL HNX han;dsimp only at c0 c1 g1 HAL HNX han;clear hx g2 g3;subst han;go_upto_region 4 with fail
   go_cut [7,6] (λq kq wx=>q=.pointer (some ⟨wr.heap.size,0,none⟩)∧kq=.int .i64 (k:Int)∧wx=wr.alloc (.cells #[.int .i64 op,.int .i64 a,.slice ap al.length ac] 43))
   case first=>
    go_wp2;go_meet
    exact⟨rfl,rfl,rfl⟩
   case rest=>
   obtain⟨rfl,rfl,rfl⟩:=hcut;go_step
   go_step
   go_cut [] (λwx=>Hid (C3 wx wr.heap.size (.int .i64 op) (.int .i64 (cdI ns ⟨op,a,al⟩).a) (.slice ap al.length ac)∧Below wr.heap.size wr wx))
   case first=>
    by_cases hop:op=1
    ·subst hop;obtain⟨ha0,ham⟩:=g1 rfl;obtain⟨m,rfl⟩:∃m:Nat,a=(m:Int):=⟨a.toNat,by omega⟩;have hm:m<ns.length:=by omega
     obtain⟨p2,c2',e,hnc⟩:=HN.out.keep HLW.out;cases e;obtain⟨nb,no,rfl,n0⟩:=hnc m hm;have n0a:=λob=>alloc_old wr ob _ _ _ n0;have HE:Hid ((cdI ns ⟨1,(m:Int),al⟩).a=ns[m]):=by
      show _=_;unfold cdI;simp[hm]
     clear hnc;go_wp2;go_meet
     rw[HE.out];exact⟨C3.new wr _ _ _ _,(Below.refl _ _).alloc (Nat.le_refl _) _⟩
    ·have HE:Hid ((cdI ns ⟨op,a,al⟩).a=a):=by
      show _=_;unfold cdI;simp[hop]
     go_wp2;go_meet
     rw[HE.out];exact⟨C3.new wr _ _ _ _,(Below.refl _ _).alloc (Nat.le_refl _) _⟩
   case rest=>
    rename World=>wx
    obtain⟨s0,s1,s2,-⟩:=hcut.out.1;have HBX:=hid hcut.out.2;have HCD:Hid (cdI ns ⟨op,a,al⟩=⟨op,(cdI ns ⟨op,a,al⟩).a,al⟩):=by
     show _=_;unfold cdI;split<;>rfl
    generalize (cdI ns ⟨op,a,al⟩).a=a' at*;have HA2:=hid (HAL.out wx.drew HBX.out.drew);have hzx:=HBX.out.size;have t0:wx.drew.cell? ⟨wr.heap.size,0,none⟩=_:=s0;have t1:wx.drew.cell? ⟨wr.heap.size,1,none⟩=_:=s1;have t2:wx.drew.cell? ⟨wr.heap.size,2,none⟩=_:=s2;have HST:=hid (λw5 (hb5:Below wx.drew.heap.size wx.drew w5) (B5:Nat) (hm5:MA wx.drew.heap.size w5 (.slice (some ⟨B5,0,none⟩) al.length al.length) al)=>HNX.out w5 (HBX.out.drew.trans (hb5.mono hzx)) _ (hm5.low (Nat.le_trans hbl hzx)) op a' HCD.out);clear hcut c0 c1 c2 HNX HAL;go_upto_region 7 with fail
    go_region_held_law (λw'=>w'.cell? ⟨wr.heap.size,0,none⟩=some (.int .i64 op)∧w'.cell? ⟨wr.heap.size,1,none⟩=some (.int .i64 a')∧w'.cell? ⟨wr.heap.size,2,none⟩=some (.slice ap al.length ac)) (refine⟨?_,?_,?_⟩<;>(first|assumption|(rw[World.cell?_setCell_far _ _ _ _ (by simp;omega),World.cell?_setCell_far _ _ _ _ (by simp;omega),World.cell?_setCell_far _ _ _ _ (by simp;omega)];assumption)))
     (first
      |(go_at_call 69;refine HA2.out.mono ?_;rintro e w5 ⟨hb5,B5,rfl,hm5⟩;have q0:=cell_keep hb5 t0;have q1:=cell_keep hb5 t1;have q2:=cell_keep hb5 t2;obtain⟨⟨v0,v1,v2,e0,e1,e2⟩,ef,hco⟩:=HST.out w5 hb5 B5 hm5;have ef0:=ef (k*3);have ef1:=ef (k*3+1);have ef2:=ef (k*3+2);have HCO:=hid hco;clear hb5 hm5 ef hco))
    all_goals(try go_wp2)
    all_goals go_roundw
    all_goals first
     |exact⟨k+1,by omega,by go_num,HCO.out⟩
     |(simp[intOf];omega)
  ·obtain rfl:k=code.length:=by omega
   have hge:¬(code.length:Int)<(code.length:Int):=by omega
   go_wp2;go_ret;obtain⟨hlw,L,h1,h2,h3⟩:=HS.out;rw[List.take_length]at h1;refine⟨hlw,_,rfl,_,L,Nat.le_refl _,by rw[List.length_map],h1,by rw[List.length_map];exact h2,h3⟩
end Go.Proofs.YtahmgjjgikgpoaaGreatDoor
