import Derived.Test.YtahmgjjgikgpoaaGreatDoorTaJ
import Derived.Test.YtahmgjjgikgpoaaGreatDoorKdJ
import Derived.Test.YtahmgjjgikgpoaaGreatDoorJwJ
import Derived.Test.YtahmgjjgikgpoaaGreatDoorSeJ
set_option maxRecDepth 100000
set_option maxHeartbeats 4000000
namespace Go.Proofs.YtahmgjjgikgpoaaGreatDoor
open Go.RowKit Go.Sort
theorem RoomsR.keep{P:Nat->Prop}{w w':World}{v rv:Value}{Os:List LObj}{V:List (Value×Value)}(h:RoomsR P w v rv Os V)(hb:Below w.heap.size w w'):RoomsR P w' v rv Os V:=by
 rcases h with h|⟨a,n,c,g,cap,R,e1,e2,h1,h2,h3,h4⟩
 ·exact Or.inl h
 ·have hg:g<w.heap.size:=block_lt_of_cell h4.1;refine Or.inr ⟨a,n,c,g,cap,R,e1,e2,h1,h2,λi k1 k2 k3=>?_,cell_keep hb h4.1,h4.2.1,λj=>by rw[World.frozen?_of_block (a:=⟨g,j,none⟩) (hb.block g hg)];exact h4.2.2 j⟩;obtain⟨c0,c1,c2,hq⟩:=h3 i k1 k2 k3;exact⟨cell_keep hb c0,cell_keep hb c1,cell_keep hb c2,hq.fr hb.size λb hp hl=>⟨hp,hb.block b hl⟩⟩
theorem RoomsR.objs{P:Nat->Prop}{w:World}{p rp:Option Addr}{cap rc:Nat}{Os:List LObj}{V:List (Value×Value)}(h:RoomsR P w (.slice p Os.length cap) (.slice rp Os.length rc) Os V)(hV:OV w p Os V)(hs:short Os.length)(hp:p=none->Os.length=0):ObjsAt w (.slice rp Os.length rc) Os:=by
 rcases h with⟨n,c,e1,e2⟩|⟨a,n,c,g,cap',R,e1,e2,h1,h2,h3,h4⟩
 ·cases e1;have h0:=hp rfl;exact⟨rp,rc,rfl,hs,λi hi=>absurd hi (by omega)⟩
 ·cases e2;refine⟨_,_,rfl,hs,λi hi=>?_⟩;have hv:i<V.length:=by rw[hV.len];exact hi
  have hr:i<R.length:=by rw[h2];exact hi
  obtain⟨c0,c1,c2,hq⟩:=h3 i hi hv hr;obtain⟨b,o,-,-,-,-,hO⟩:=hV.c i hi hv;have hO2:=room_obj hO (Below.refl _ _) hq.kept.1 hq.kept.2;obtain⟨ip,ic,gp,gc,e3,e4⟩:=room_slices hO2;rw[e3]at c1 hO2;rw[e4]at c2 hO2;exact⟨g,0,ip,ic,gp,gc,rfl,by rw[Nat.zero_add];exact c0,by rw[Nat.zero_add];exact c1,by rw[Nat.zero_add];exact c2,hO2⟩
def newCell(k:Nat):MCl:=⟨4,(k:Int),0,0,[]⟩
def newSt(ng:Nat)(fuel cells:Int):MSt:=⟨(List.range ng).map newCell,[],⟨0,[],0⟩,[],0,fuel,0,cells,0,0,[]⟩
theorem own_put5{w:World}{B:Nat}{e:TypeId}{g n c k:Nat}{zs:List Value}{cs:List (List Value)}(h:w.ownsRow B e 5 (.slice (some ⟨g,0,none⟩) n c) n ((List.range (n*5)).map (rowF 5 zs cs)))(hk:cs.length=k)(hn:k<n)(x0 x1 x2 x3 x4:Value):(((((w.setCell ⟨g,k*5,none⟩ x0).setCell ⟨g,k*5+1,none⟩ x1).setCell ⟨g,k*5+2,none⟩ x2).setCell ⟨g,k*5+3,none⟩ x3).setCell ⟨g,k*5+4,none⟩ x4).ownsRow B e 5 (.slice (some ⟨g,0,none⟩) n c) n ((List.range (n*5)).map (rowF 5 zs (cs++[[x0,x1,x2,x3,x4]]))):=by
 subst hk;have h5:=((((((h.stored (cs.length*5) x0).1.stored (cs.length*5+1) x1).1.stored (cs.length*5+2) x2).1.stored (cs.length*5+3) x3).1.stored (cs.length*5+4) x4).1);have e:((((((List.range (n*5)).map (rowF 5 zs cs)).set (cs.length*5) x0).set (cs.length*5+1) x1).set (cs.length*5+2) x2).set (cs.length*5+3) x3).set (cs.length*5+4) x4=(List.range (n*5)).map (rowF 5 zs (cs++[[x0,x1,x2,x3,x4]])):=by
  apply List.ext_getElem
  ·simp
  ·intro i h1 h2;simp only[List.getElem_set,List.getElem_map,List.getElem_range];by_cases q4:cs.length*5+4=i
   ·subst q4;rw[if_pos rfl,rowF_new (by omega),show(cs.length*5+4) % 5=4 by omega];rfl
   rw[if_neg q4];by_cases q3:cs.length*5+3=i
   ·subst q3;rw[if_pos rfl,rowF_new (by omega),show(cs.length*5+3) % 5=3 by omega];rfl
   rw[if_neg q3];by_cases q2:cs.length*5+2=i
   ·subst q2;rw[if_pos rfl,rowF_new (by omega),show(cs.length*5+2) % 5=2 by omega];rfl
   rw[if_neg q2];by_cases q1:cs.length*5+1=i
   ·subst q1;rw[if_pos rfl,rowF_new (by omega),show(cs.length*5+1) % 5=1 by omega];rfl
   rw[if_neg q1];by_cases q0:cs.length*5=i
   ·subst q0;rw[if_pos rfl,rowF_new (by omega),show(cs.length*5) % 5=0 by omega];rfl
   rw[if_neg q0,rowF_other (by omega)]
 rw[e]at h5;exact h5
theorem flat5_at(j:Nat)(hj:j<5):∀(l:List (MCl×Value)) (r:Nat) (hr:r<l.length),(l.flatMap mcC)[r*5+j]?=(mcC l[r])[j]?
 |x::l,0,_=>by rw[List.flatMap_cons,List.getElem?_append_left (by simp[mcC];omega)];simp
 |x::l,r+1,hr=>by
  rw[List.flatMap_cons,List.getElem?_append_right (by simp[mcC];omega),show(r+1)*5+j-(mcC x).length=r*5+j by simp[mcC];omega];simpa using flat5_at j hj l r (by simpa using hr)
theorem flat5_len:∀l:List (MCl×Value),(l.flatMap mcC).length=l.length*5
 |[]=>rfl
 |x::l=>by rw[List.flatMap_cons,List.length_append,flat5_len l,List.length_cons];simp[mcC];omega
theorem row5(L:List (MCl×Value))(zs:List Value):(List.range (L.length*5)).map (rowF 5 zs (L.map mcC))=L.flatMap mcC:=by
 apply List.ext_getElem?;intro i;by_cases hi:i<L.length*5
 ·have hr:i / 5<L.length:=by omega
  have h1:=flat5_at (i % 5) (by omega) L (i / 5) hr;rw[show i / 5*5+i % 5=i by omega]at h1;rw[h1,List.getElem?_map,List.getElem?_range hi,Option.map_some,rowF_at (by rw[List.length_map];exact hr),List.getElem_map];have:i % 5<(mcC L[i / 5]).length:=by simp[mcC];omega
  rw[List.getElem?_eq_getElem this];rfl
 ·rw[List.getElem?_eq_none (by simp;omega),List.getElem?_eq_none (by rw[flat5_len];omega)]
theorem own_made(w:World)(z:Array Value)(n:Nat)(t:TypeId)(lo:Nat)(hlo:lo<=w.heap.size)(hz:z.size=5)(hn:n<=maxLen):(w.alloc (.cells (madeCells z (n*5)) t)).ownsRow lo t 5 (.slice (some ⟨w.heap.size,0,none⟩) n n) n ((List.range (n*5)).map (rowF 5 z.toList [])):=by
 have h:=World.ownsRow_lit (base:=lo) (e:=t) (size:=5) w (madeCells z (n*5)) n hlo hn (by rw[size_madeCells]);have e:(madeCells z (n*5)).toList=(List.range (n*5)).map (rowF 5 z.toList []):=by
  unfold madeCells;simp only[Array.toList_map,Array.toList_range];refine List.map_congr_left λi _=>?_;have:i % 5<z.size:=by omega
  unfold rowF;simp only[hz,List.getElem?_nil,Option.getD_none,Array.getElem?_toList];rw[getElem!_pos z _ this,Array.getElem?_eq_getElem this];rfl
 rw[<-e];exact h
theorem mCell_make(n:Nat)(hn:n<=1000000)(w:World):(Instr.makeSlice 112 (.int .i64 (n:Int)) (.int .i64 (n:Int))).run Tryz.prog w=.ok (.slice (some ⟨w.heap.size,0,none⟩) n n) (w.alloc (.cells (madeCells #[.int .u8 0,.int .i64 0,.int .i32 0,.int .i32 0,.slice none 0 0] (n*5)) 154)):=by
 obtain⟨i,hi,hii⟩:=Option.map_eq_some_iff.1 Tryz.cellJ;simp only[Prod.mk.injEq]at hii;obtain⟨hz0,hz1,hz2⟩:=hii;rw[run_make (P:=Tryz.prog) w 112 154 i _ Tryz.underlying112 hi hz0 .i64 .i64 n n (by omega) (by omega) (by rw[hz2];omega) (by omega),hz1];simp[Value.cells]
def nwC(k:Nat):List (List Value):=((List.range k).map λi=>(newCell i,Value.slice none 0 0)).map mcC
theorem nwC_len(k:Nat):(nwC k).length=k:=by simp[nwC]
theorem nwC_succ(k:Nat):nwC (k+1)=nwC k++[[.int .u8 4,.int .i64 (k:Int),.int .i32 0,.int .i32 0,.slice none 0 0]]:=by simp[nwC,List.range_succ,mcC,newCell]
def nwZ:List Value:=[.int .u8 0,.int .i64 0,.int .i32 0,.int .i32 0,.slice none 0 0]
structure NmS (w wr:World) (Pb ng:Nat) (fuel cells:Int) (k:Nat):Prop where
 low:Below w.heap.size w wr
 m:FBL wr w.heap.size (mL Pb (.slice (some ⟨w.heap.size+1,0,none⟩) ng ng) (.slice none 0 0) (.slice none 0 0) (.slice none 0 0) (.slice none 0 0) (newSt ng fuel cells))
 r:wr.ownsRow w.heap.size 154 5 (.slice (some ⟨w.heap.size+1,0,none⟩) ng ng) ng ((List.range (ng*5)).map (rowF 5 nwZ (nwC k)))
theorem newMachine_any{w:World}{Pb ng gc:Nat}{gp:Option Addr}(fuel cells:Int)(hc:w.cell? ⟨Pb,0,none⟩=some (.slice gp ng gc))(hn:ng<=1000000):
 Calls Tryz.prog 33 #[.pointer (some ⟨Pb,0,none⟩),.int .i64 fuel,.int .i64 cells] w λe w'=>Below w.heap.size w w'∧∃M B,e=.returned (.pointer (some ⟨M,0,none⟩))∧MM w.heap.size w' M Pb (newSt ng fuel cells) B∧∀b∈B,w.heap.size<=b:=by
 have hmk:=mCell_make ng hn;have hca:=λo=>alloc_old w o _ _ _ hc;obtain⟨W0,hW0⟩:∃W0,W0=(w.alloc (.cells #[.pointer (some ⟨Pb,0,none⟩),.slice (some ⟨w.heap.size+1,0,none⟩) ng ng,.slice none 0 0,.int .i64 0,.slice none 0 0,.int .i64 0,.slice none 0 0,.int .i64 0,.int .i64 fuel,.int .i64 0,.int .i64 cells,.int .i64 0,.int .i64 0,.slice none 0 0] 123)).alloc (.cells (madeCells #[.int .u8 0,.int .i64 0,.int .i32 0,.int .i32 0,.slice none 0 0] (ng*5)) 154):=⟨_,rfl⟩;have HS0:Hid (NmS w W0 Pb ng fuel cells 0):=by
  rw[hW0];have hb1:Below w.heap.size w (w.alloc (.cells #[.pointer (some ⟨Pb,0,none⟩),.slice (some ⟨w.heap.size+1,0,none⟩) ng ng,.slice none 0 0,.int .i64 0,.slice none 0 0,.int .i64 0,.slice none 0 0,.int .i64 0,.int .i64 fuel,.int .i64 0,.int .i64 cells,.int .i64 0,.int .i64 0,.slice none 0 0] 123)):=(Below.refl _ _).alloc (Nat.le_refl _) _;have hf:FBL (w.alloc (.cells #[.pointer (some ⟨Pb,0,none⟩),.slice (some ⟨w.heap.size+1,0,none⟩) ng ng,.slice none 0 0,.int .i64 0,.slice none 0 0,.int .i64 0,.slice none 0 0,.int .i64 0,.int .i64 fuel,.int .i64 0,.int .i64 cells,.int .i64 0,.int .i64 0,.slice none 0 0] 123)) w.heap.size (mL Pb (.slice (some ⟨w.heap.size+1,0,none⟩) ng ng) (.slice none 0 0) (.slice none 0 0) (.slice none 0 0) (.slice none 0 0) (newSt ng fuel cells)):=⟨λj hj=>alloc_cell _ _ _ _ _ (by
   have:j<14:=hj;simp only[mL,newSt];rw[List.getElem?_eq_getElem (by simpa using this)];simp),λj=>by simp,by simp⟩
  refine⟨hb1.alloc (by simp) _,hf.of_block (Below.heap_alloc _ _ _ (by simp)) (by simp),?_⟩;have h1:=own_made (w.alloc (.cells #[.pointer (some ⟨Pb,0,none⟩),.slice (some ⟨w.heap.size+1,0,none⟩) ng ng,.slice none 0 0,.int .i64 0,.slice none 0 0,.int .i64 0,.slice none 0 0,.int .i64 0,.int .i64 fuel,.int .i64 0,.int .i64 cells,.int .i64 0,.int .i64 0,.slice none 0 0] 123)) #[.int .u8 0,.int .i64 0,.int .i32 0,.int .i32 0,.slice none 0 0] ng 154 w.heap.size (by simp) rfl (by unfold maxLen;omega);rw[World.size_alloc]at h1;exact h1
 go_enter Tryz.func33,Tryz.ntmps33;go_wp2;rw[<-hW0];clear hW0 hca hmk;go_loopw [30] (λkv wr=>∃k:Nat,k<=ng∧kv=.int .i64 (k:Int)∧Hid (NmS w wr Pb ng fuel cells k)) (λkv _=>ng-(intOf kv).toNat)
 case atStart=>exact⟨0,Nat.zero_le _,rfl,HS0.out⟩
 case round=>
  clear HS0;obtain⟨k,hk,rfl,HS⟩:=hrel;rename World=>wr
  by_cases hlt:k<ng
  ·have h0:(0:Int)<=(k:Int):=by omega
   have h1:(k:Int)<(ng:Int):=by omega
   have e1:=HS.out.m.at 1 rfl;have hr:=HS.out.r;have hx:∀j,j<ng*5->wr.cell? ⟨w.heap.size+1,j,none⟩=some (rowF 5 nwZ (nwC k) j):=λj hj=>by rw[hr.cellAt j hj];simp[hj]
   have c0:=hx (k*5) (by omega);have c1:=hx (k*5+1) (by omega);have c2:=hx (k*5+2) (by omega);have c3:=hx (k*5+3) (by omega);have c4:=hx (k*5+4) (by omega);have f0:=hr.frozenAt (k*5);have f1:=hr.frozenAt (k*5+1);have f2:=hr.frozenAt (k*5+2);have f3:=hr.frozenAt (k*5+3);have f4:=hr.frozenAt (k*5+4);have HN:Hid (NmS w (((((wr.setCell ⟨w.heap.size+1,k*5,none⟩ (.int .u8 4)).setCell ⟨w.heap.size+1,k*5+1,none⟩ (.int .i64 (k:Int))).setCell ⟨w.heap.size+1,k*5+2,none⟩ (.int .i32 0)).setCell ⟨w.heap.size+1,k*5+3,none⟩ (.int .i32 0)).setCell ⟨w.heap.size+1,k*5+4,none⟩ (.slice none 0 0)) Pb ng fuel cells (k+1)):=by
    refine⟨((((HS.out.low.setCell (by simp) _).setCell (by simp) _).setCell (by simp) _).setCell (by simp) _).setCell (by simp) _,((((FB.set HS.out.m (by omega) _).set (by omega) _).set (by omega) _).set (by omega) _).set (by omega) _,?_⟩;rw[nwC_succ];exact own_put5 hr (nwC_len k) hlt _ _ _ _ _
   clear hr hx HS;go_wp2;exact⟨⟨k+1,by omega,by go_num,HN.out⟩,by simp[intOf];omega⟩
  ·obtain rfl:k=ng:=by omega
   have hge:¬(k:Int)<(k:Int):=by omega
   go_wp2;go_ret;have hr:=HS.out.r;have hlen:((List.range k).map λi=>(newCell i,Value.slice none 0 0)).length=k:=by simp
   have hrow:(List.range (k*5)).map (rowF 5 nwZ (nwC k))=((List.range k).map λi=>(newCell i,Value.slice none 0 0)).flatMap mcC:=by
    have:=row5 ((List.range k).map λi=>(newCell i,Value.slice none 0 0)) nwZ;rw[hlen]at this;exact this
   rw[hrow]at hr;have hMM:MM w.heap.size wr w.heap.size Pb (newSt k fuel cells) (mB w.heap.size (.slice (some ⟨w.heap.size+1,0,none⟩) k k) (.slice none 0 0) (.slice none 0 0) (.slice none 0 0)):=by
    refine⟨(List.range k).map λi=>(newCell i,Value.slice none 0 0),[],_,_,_,_,_,⟨HS.out.m,by rw[hlen];exact hr,λx hx=>?_,World.ownsRow_nil _ _ _ _,World.ownsRow_nil _ _ _ _,λx hx=>absurd hx (by simp),Or.inl ⟨rfl,rfl⟩,World.ownsRow_nil _ _ _ _,?_,rfl,?_,Nat.le_refl _⟩,rfl⟩
    ·obtain⟨i,-,rfl⟩:=List.mem_map.1 hx;exact⟨none,0,rfl,λi hi=>absurd hi (by simp[newCell])⟩
    ·rw[List.map_map];rfl
    ·simp[mB,vB,Value.ownBlock]
   exact⟨HS.out.low,w.heap.size,rfl,_,hMM,λb hb=>by
    simp[mB,vB,Value.ownBlock]at hb;omega⟩
structure AFr where
 s:List Int
 g:Int
 at_:Int
structure ASt where
 cells:List MCl
 now:AFr
 dump:List AFr
 fuel:Int
 spare:Int
 kind:Int
 steps:Int
 used:Int
 ended:Bool
def kByte(k:Int):Int:=if k=1 then 105 else if k=2 then 97 else if k=3 then 114 else if k=4 then 103 else if k=5 then 110 else 104
def cN(x:MCl):Int:=if x.kind=1∨x.kind=3∨x.kind=4 then x.n else 0
def cP(x:MCl):List Int:=if x.kind=2 then [x.left,x.right] else if x.kind=3 then x.fields.reverse else if x.kind=5 then [x.left] else []
def rcC(x:MCl×Value):List Value:=[.int .u8 (kByte x.1.kind),.int .i64 (cN x.1),x.2]
def wtC(x:AFr×Value):List Value:=[x.2,.int .i64 x.1.g,.int .i64 x.1.at_]
def IntB(w:World)(b:Nat):Prop:=∃C f,w.heap[b]?=some (.cells C 3 f)
def PtX(X:Nat->Prop)(w:World)(v:Value)(l:List Int):Prop:=∃p cap,v=.slice p l.length cap∧∀i (h:i<l.length),∃b o,(X b∧IntB w b)∧p=some ⟨b,o,none⟩∧w.cell? ⟨b,o+i,none⟩=some (.int .i64 l[i])
theorem PtX.fr{X Y:Nat->Prop}{w w':World}{v:Value}{l:List Int}(h:PtX X w v l)(hX:∀b,X b->b<w.heap.size->Y b∧w'.heap[b]?=w.heap[b]?):PtX Y w' v l:=by
 obtain⟨p,cap,e,hc⟩:=h;refine⟨p,cap,e,λi hi=>?_⟩;obtain⟨b,o,hx,e2,h0⟩:=hc i hi;obtain⟨k1,k2⟩:=hX b hx.1 (block_lt_of_cell h0);obtain⟨C,f,hC⟩:=hx.2;exact⟨b,o,⟨k1,C,f,k2.trans hC⟩,e2,cell_same k2 h0⟩
def rL(Ib:Nat)(cv sv dv:Value)(st:ASt):List Value:=[.pointer (some ⟨Ib,0,none⟩),cv,sv,.int .i64 st.now.g,.int .i64 st.now.at_,dv,.int .i64 st.fuel,.int .i64 st.spare,.int .i64 st.kind,.string ⟨#[]⟩,.int .i64 st.steps,.int .i64 st.used,.bool st.ended]
def dB(ds:List (AFr×Value)):List Nat:=ds.flatMap λx=>vB x.2
def rB(M:Nat)(cv sv dv:Value)(ds:List (AFr×Value)):List Nat:=M::(vB cv++(vB sv++(vB dv++dB ds)))
structure RMem (lo:Nat) (w:World) (M Ib:Nat) (st:ASt) (cs:List (MCl×Value)) (ds:List (AFr×Value)) (cv sv dv:Value):Prop where
 m:FBL w M (rL Ib cv sv dv st)
 cl:w.ownsRow lo 88 3 cv cs.length (cs.flatMap rcC)
 fl:∀x∈cs,PtX (λb=>lo<=b∧b∉rB M cv sv dv ds) w x.2 (cP x.1)
 sk:w.ownsRow lo 3 1 sv st.now.s.length (iC st.now.s)
 dp:w.ownsRow lo 83 3 dv ds.length (ds.flatMap wtC)
 dk:∀x∈ds,w.ownsRow lo 3 1 x.2 x.1.s.length (iC x.1.s)
 hcs:cs.map (·.1)=st.cells
 hds:ds.map (·.1)=st.dump
 nd:(rB M cv sv dv ds).Nodup
 ml:lo<=M
section
variable {lo:Nat} {w w':World} {M Ib:Nat} {st:ASt} {cs:List (MCl×Value)} {ds:List (AFr×Value)} {cv sv dv:Value}
theorem RMem.rg(h:RMem lo w M Ib st cs ds cv sv dv):∀b∈rB M cv sv dv ds,lo<=b∧b<w.heap.size:=by
 intro b hb;rcases List.mem_cons.1 hb with rfl|hb
 ·exact⟨h.ml,h.m.lt⟩
 rcases List.mem_append.1 hb with hb|hb
 ·exact own_lo h.cl hb
 rcases List.mem_append.1 hb with hb|hb
 ·exact own_lo h.sk hb
 rcases List.mem_append.1 hb with hb|hb
 ·exact own_lo h.dp hb
 ·obtain⟨x,hx,hb⟩:=List.mem_flatMap.1 hb;exact own_lo (h.dk x hx) hb
theorem RMem.lz(h:RMem lo w M Ib st cs ds cv sv dv):lo<=w.heap.size:=Nat.le_trans h.ml (Nat.le_of_lt h.m.lt)
theorem RMem.keep(h:RMem lo w M Ib st cs ds cv sv dv)(hb:Below w.heap.size w w'):RMem lo w' M Ib st cs ds cv sv dv:=
 ⟨h.m.of_block (hb.block _ h.m.lt) hb.size,row_kp h.cl hb,λx hx=>(h.fl x hx).fr λb h1 h2=>⟨h1,hb.block b h2⟩,row_kp h.sk hb,row_kp h.dp hb,λx hx=>row_kp (h.dk x hx) hb,h.hcs,h.hds,h.nd,h.ml⟩
theorem RMem.setM(h:RMem lo w M Ib st cs ds cv sv dv){i:Nat}{u:Value}{st':ASt}(hL:(rL Ib cv sv dv st).set i u=rL Ib cv sv dv st')(hi:i<13)(h1:st'.cells=st.cells)(h2:st'.now.s=st.now.s)(h3:st'.dump=st.dump):RMem lo (w.setCell ⟨M,i,none⟩ u) M Ib st' cs ds cv sv dv:=by
 have hnd:=List.nodup_cons.1 h.nd;have hne:∀b,b≠M->(w.setCell ⟨M,i,none⟩ u).heap[b]?=w.heap[b]?:=λb hb=>Below.heap_setCell _ _ _ _ hb;have hr:∀v,(∀b∈vB v,b∈vB cv++(vB sv++(vB dv++dB ds)))->Fr (vB v) w (w.setCell ⟨M,i,none⟩ u):=λv hv b hb=>hne b λe=>hnd.1 (e▸hv b hb);have hm:=h.m.set (i:=i) hi u;rw[hL]at hm;refine⟨hm,row_fr h.cl (hr cv λb hb=>List.mem_append_left _ hb),λx hx=>(h.fl x hx).fr λb hx _=>⟨hx,hne b λe=>hx.2 (e▸List.mem_cons_self ..)⟩,?_,row_fr h.dp (hr dv λb hb=>List.mem_append_right _ (List.mem_append_right _ (List.mem_append_left _ hb))),λx hx=>row_fr (h.dk x hx) (hr x.2 λb hb=>List.mem_append_right _ (List.mem_append_right _ (List.mem_append_right _ (List.mem_flatMap.2 ⟨x,hx,hb⟩)))),by rw[h1];exact h.hcs,by rw[h3];exact h.hds,h.nd,h.ml⟩;rw[h2];exact row_fr h.sk (hr sv λb hb=>List.mem_append_right _ (List.mem_append_left _ hb))
end
def RM(lo:Nat)(w:World)(M Ib:Nat)(st:ASt)(B:List Nat):Prop:=∃cs ds cv sv dv,RMem lo w M Ib st cs ds cv sv dv∧B=rB M cv sv dv ds
theorem RM.keep{lo:Nat}{w w':World}{M Ib:Nat}{st:ASt}{B:List Nat}(h:RM lo w M Ib st B)(hb:Below w.heap.size w w'):RM lo w' M Ib st B:=by
 obtain⟨cs,ds,cv,sv,dv,h,e⟩:=h;exact⟨cs,ds,cv,sv,dv,h.keep hb,e⟩
def RRes(lo M Ib:Nat)(B:List Nat)(w:World)(st:ASt)(r:Value)(e:Ending)(w':World):Prop:=e=.returned r∧AG B w w'∧∃B',RM lo w' M Ib st B'∧∀b∈B',b∈B∨w.heap.size<=b
theorem RRes.of{lo M Ib:Nat}{B B1:List Nat}{w w1:World}{st:ASt}{r r':Value}{e e':Ending}{w':World}(h1:AG B w w1)(h2:∀b∈B1,b∈B∨w.heap.size<=b)(h:RRes lo M Ib B1 w1 st r e w')(he:e'=.returned r'):RRes lo M Ib B w st r' e' w':=by
 obtain⟨-,hA,B2,hM,hB⟩:=h;exact⟨he,h1.trans hA h2,B2,hM,λb hb=>(hB b hb).elim (h2 b) λh=>Or.inr (Nat.le_trans h1.size h)⟩
theorem RRes.drew{lo M Ib:Nat}{B:List Nat}{w:World}{st:ASt}{r:Value}{e:Ending}{w':World}(h:RRes lo M Ib B w st r e w'):RRes lo M Ib B w st r e w'.drew:=by
 obtain⟨h1,h2,B',h3,h4⟩:=h;exact⟨h1,h2.then (Below.refl _ _).drew,B',h3.keep (Below.refl _ _).drew,h4⟩
def rEnd(k:Int)(st:ASt):ASt:=if st.ended then st else {st with ended:=true,kind:=k}
theorem rEnd_any{lo:Nat}{w:World}{M Ib:Nat}{st:ASt}{B:List Nat}(k:Int)(h:RM lo w M Ib st B):
 Calls Tryz.prog 39 #[.pointer (some ⟨M,0,none⟩),.int .i64 k] w λe w'=>RRes lo M Ib B w (rEnd k st) (.tuple #[]) e w':=by
 obtain⟨cs,ds,cv,sv,dv,h,hBe⟩:=h;have hself:M∈B:=by rw[hBe];exact List.mem_cons_self ..
 have e12:=h.m.at 12 rfl;have e8:=h.m.at 8 rfl;have f12:=h.m.fz 12;have f8:=h.m.fz 8;cases he:st.ended with
 |true=>
  have hS:rEnd k st=st:=by unfold rEnd;rw[he];rfl
  rw[hS];rw[he]at e12;have HR:Hid (RRes lo M Ib B w st (.tuple #[]) (.returned (.tuple #[])) w):=⟨rfl,AG.refl _ _,_,⟨cs,ds,cv,sv,dv,h,rfl⟩,λb hb=>Or.inl (by rw[hBe];exact hb)⟩;clear h hBe;go_enter Tryz.func39,Tryz.ntmps39;go_wp2;refine bE ?_;exact HR.out
 |false=>
  have hS:rEnd k st={st with ended:=true,kind:=k}:=by unfold rEnd;rw[he];rfl
  rw[hS];rw[he]at e12;have HR:Hid (RRes lo M Ib B w {st with ended:=true,kind:=k} (.tuple #[]) (.returned (.tuple #[])) ((w.setCell ⟨M,12,none⟩ (.bool true)).setCell ⟨M,8,none⟩ (.int .i64 k))):=by
   have h1:=h.setM (i:=12) (u:=.bool true) (st':={st with ended:=true}) rfl (by omega) rfl rfl rfl;have h2:=h1.setM (i:=8) (u:=.int .i64 k) (st':={st with ended:=true,kind:=k}) rfl (by omega) rfl rfl rfl;exact⟨rfl,((AG.refl _ _).set (Or.inl hself) _).set (Or.inl hself) _,_,⟨cs,ds,cv,sv,dv,h2,rfl⟩,λb hb=>Or.inl (by rw[hBe];exact hb)⟩
  clear h hBe;go_enter Tryz.func39,Tryz.ntmps39;go_wp2;refine bE ?_;exact HR.out
section
variable {lo:Nat} {w w4:World} {M Ib:Nat} {st:ASt} {cs:List (MCl×Value)} {ds:List (AFr×Value)} {cv sv dv:Value}
theorem RMem.turnS(h:RMem lo w M Ib st cs ds cv sv dv)(hA:AG (vB sv) w w4){sv':Value}{s':List Int}(hown:w4.ownsRow lo 3 1 sv' s'.length (iC s'))(hv:∀b∈vB sv',b∈vB sv∨w.heap.size<=b):
 RMem lo (w4.setCell ⟨M,2,none⟩ sv') M Ib {st with now:={st.now with s:=s'}} cs ds cv sv' dv∧AG (rB M cv sv dv ds) w (w4.setCell ⟨M,2,none⟩ sv')∧∀b∈rB M cv sv' dv ds,b∈rB M cv sv dv ds∨w.heap.size<=b:=by
 have hrg:=h.rg;have hnd:((M::vB cv)++(vB sv++(vB dv++dB ds))).Nodup:=h.nd;have hnd':((M::vB cv)++(vB sv'++(vB dv++dB ds))).Nodup:=nd_swap hnd (vB_nd _) hv λb hb=>(hrg b hb).2;have hd:=List.nodup_append.1 hnd;have hd2:=List.nodup_append.1 hd.2.1;have hnS:∀b,b∈(M::vB cv)∨b∈vB dv++dB ds->b∉vB sv:=λb hb hm=>by
  rcases hb with hb|hb
  ·exact hd.2.2 b hb b (List.mem_append_left _ hm) rfl
  ·exact hd2.2.2 b hm b hb rfl
 have hM:∀b,b∈vB cv++(vB sv'++(vB dv++dB ds))->b≠M:=λb hb e=>(List.nodup_cons.1 hnd').1 (e▸hb);have hz:=hA.size;have hblk:∀b,b<w.heap.size->b∉vB sv->b≠M->(w4.setCell ⟨M,2,none⟩ sv').heap[b]?=w.heap[b]?:=λb h1 h2 h3=>by rw[Below.heap_setCell _ _ _ _ h3];exact hA.block b h1 h2
 have hfr:∀v,(∀b∈vB v,b∈vB cv∨b∈vB dv++dB ds)->Fr (vB v) w (w4.setCell ⟨M,2,none⟩ sv'):=λv hv b hb=>by
  rcases hv b hb with h1|h1
  ·exact hblk b (hrg b (List.mem_cons_of_mem _ (List.mem_append_left _ h1))).2 (hnS b (Or.inl (List.mem_cons_of_mem _ h1))) (hM b (List.mem_append_left _ h1))
  ·exact hblk b (hrg b (List.mem_cons_of_mem _ (List.mem_append_right _ (List.mem_append_right _ h1)))).2 (hnS b (Or.inr h1)) (hM b (List.mem_append_right _ (List.mem_append_right _ h1)))
 have hAG:AG (rB M cv sv dv ds) w (w4.setCell ⟨M,2,none⟩ sv'):=AG.set ⟨hA.os,hA.tape,hA.output,hA.size,λk hk hX=>hA.block k hk λhm=>hX (List.mem_cons_of_mem _ (List.mem_append_right _ (List.mem_append_left _ hm)))⟩ (Or.inl (List.mem_cons_self ..)) _;have hm4:FBL w4 M (rL Ib cv sv dv st):=h.m.of_block (hA.block M h.m.lt (hnS M (Or.inl (List.mem_cons_self ..)))) hz;have hnew:∀b∈rB M cv sv' dv ds,b∈rB M cv sv dv ds∨w.heap.size<=b:=λb hb=>by
  rcases List.mem_cons.1 hb with rfl|hb
  ·exact Or.inl (List.mem_cons_self ..)
  rcases List.mem_append.1 hb with hb|hb
  ·exact Or.inl (List.mem_cons_of_mem _ (List.mem_append_left _ hb))
  rcases List.mem_append.1 hb with hb|hb
  ·exact(hv b hb).imp (λh=>List.mem_cons_of_mem _ (List.mem_append_right _ (List.mem_append_left _ h))) id
  ·exact Or.inl (List.mem_cons_of_mem _ (List.mem_append_right _ (List.mem_append_right _ hb)))
 refine⟨⟨hm4.set (i:=2) (by simp[rL]) sv',row_fr h.cl (hfr cv λb hb=>Or.inl hb),λx hx=>(h.fl x hx).fr λb ⟨g1,g2⟩ hbl=>⟨⟨g1,λhm=>?_⟩,hblk b hbl (λhm=>g2 (List.mem_cons_of_mem _ (List.mem_append_right _ (List.mem_append_left _ hm)))) (λe=>g2 (e▸List.mem_cons_self ..))⟩,?_,row_fr h.dp (hfr dv λb hb=>Or.inr (List.mem_append_left _ hb)),λx hx=>row_fr (h.dk x hx) (hfr x.2 λb hb=>Or.inr (List.mem_append_right _ (List.mem_flatMap.2 ⟨x,hx,hb⟩))),h.hcs,h.hds,hnd',h.ml⟩,hAG,hnew⟩
 ·rcases hnew b hm with h1|h1
  ·exact g2 h1
  ·omega
 ·exact row_fr hown λb hb=>Below.heap_setCell _ _ _ _ (hM b (List.mem_append_right _ (List.mem_append_left _ hb)))
theorem iC_take(l:List Int)(m:Nat):(iC l).take (m*1)=iC (l.take m):=by simp[iC]
theorem iC_app(l m:List Int):iC (l++m)=iC l++iC m:=by simp[iC]
theorem RMem.less{p:Option Addr}{c m:Nat}(h:RMem lo w M Ib st cs ds cv (.slice p st.now.s.length c) dv)(hm:m<=st.now.s.length):RMem lo (w.setCell ⟨M,2,none⟩ (.slice p m c)) M Ib {st with now:={st.now with s:=st.now.s.take m}} cs ds cv (.slice p m c) dv∧AG (rB M cv (.slice p st.now.s.length c) dv ds) w (w.setCell ⟨M,2,none⟩ (.slice p m c))∧∀b∈rB M cv (.slice p m c) dv ds,b∈rB M cv (.slice p st.now.s.length c) dv ds∨w.heap.size<=b:=by
 have hd:=owns_tk h.sk hm;rw[iC_take]at hd;refine h.turnS (AG.refl _ _) (s':=st.now.s.take m) (by rw[List.length_take,Nat.min_eq_left hm];exact hd) λb hb=>Or.inl ?_;rw[show vB (.slice p st.now.s.length c)=vB (.slice p m c) by unfold vB;cases p<;>rfl];exact hb
end
def rStk(s:List Int)(st:ASt):ASt:={st with now:={st.now with s:=s}}
def rStepB(st:ASt):Bool:=!st.ended && decide (st.steps≠st.fuel)
def rStepS(st:ASt):ASt:=if st.steps=st.fuel then rEnd 1 st else if st.ended then st else {st with steps:=st.steps+1}
theorem rTake_any{lo:Nat}{w:World}{M Ib:Nat}{st:ASt}{B:List Nat}{s:List Int}{x:Int}(h:RM lo w M Ib st B)(hs:st.now.s=s++[x])(hl:st.now.s.length<=1000000000):
 Calls Tryz.prog 59 #[.pointer (some ⟨M,0,none⟩)] w λe w'=>RRes lo M Ib B w (rStk s st) (.int .i64 x) e w':=by
 obtain⟨cs,ds,cv,sv,dv,h,hBe⟩:=h;have hsl:st.now.s.length=s.length+1:=by rw[hs];simp
 obtain⟨sg,sc,rfl,hcap,hsc⟩:=stack_slice h.sk (by omega);have e2:=h.m.at 2 rfl;have f2:=h.m.fz 2;have hx:w.cell? ⟨sg,s.length,none⟩=some (.int .i64 x):=by rw[hsc _ (by omega),hs];simp[iC]
 have HR:Hid (RRes lo M Ib B w (rStk s st) (.int .i64 x) (.returned (.int .i64 x)) (w.setCell ⟨M,2,none⟩ (.slice (some ⟨sg,0,none⟩) s.length sc))):=by
  obtain⟨t1,t2,t3⟩:=h.less (m:=s.length) (by omega);rw[show st.now.s.take s.length=s by rw[hs];simp]at t1;rw[<-hBe]at t2 t3;exact⟨rfl,t2,_,⟨cs,ds,cv,_,dv,t1,rfl⟩,t3⟩
 rw[hsl]at e2 hcap;have i0:(0:Int)<=(s.length:Int):=by omega
 have i1:(s.length:Int)<((s.length+1:Nat):Int):=by omega
 have i2:(s.length:Int)<=(sc:Int):=by omega
 have i3:IntKind.i64.wrap (((s.length+1:Nat):Int)-1)=(s.length:Int):=by rw[IntKind.wrap_i64];omega
 clear h hBe hsc;go_enter Tryz.func59,Tryz.ntmps59;go_wp2;go_ret;exact HR.out
theorem rStep_any{lo:Nat}{w:World}{M Ib:Nat}{st:ASt}{B:List Nat}(h:RM lo w M Ib st B)(hb:-1000000000000<=st.steps∧st.steps<=1000000000000):
 Calls Tryz.prog 37 #[.pointer (some ⟨M,0,none⟩)] w λe w'=>RRes lo M Ib B w (rStepS st) (.bool (rStepB st)) e w':=by
 have HE:=hid (rEnd_any 1 (h.keep (Below.refl _ _).drew));have hR0:=h;obtain⟨cs,ds,cv,sv,dv,h,hBe⟩:=h;have hself:M∈B:=by rw[hBe];exact List.mem_cons_self ..
 have e6:=h.m.at 6 rfl;have e10:=h.m.at 10 rfl;have e12:=h.m.at 12 rfl;have f10:=h.m.fz 10;have e6d:w.drew.cell? ⟨M,6,none⟩=_:=e6;have e10d:w.drew.cell? ⟨M,10,none⟩=_:=e10;have e12d:w.drew.cell? ⟨M,12,none⟩=_:=e12;have f10d:w.drew.frozen? ⟨M,10,none⟩=_:=f10;have hw:IntKind.i64.wrap (st.steps+1)=st.steps+1:=i64w (by omega);by_cases hf:st.steps=st.fuel
 ·have hS:rStepS st=rEnd 1 st:=by unfold rStepS;rw[if_pos hf]
  have hB:rStepB st=false:=by unfold rStepB;simp[hf]
  rw[hS,hB];have HX:Hid (∀w1,RRes lo M Ib B w.drew (rEnd 1 st) (.tuple #[]) (.returned (.tuple #[])) w1->w1.cell? ⟨M,12,none⟩=some (.bool true)∧Hid (RRes lo M Ib B w (rEnd 1 st) (.bool false) (.returned (.bool false)) w1)):=λw1 hr=>by
   refine⟨?_,hr.of (AG.of_below (Below.refl _ _).drew) (λb hb=>Or.inl hb) rfl⟩;obtain⟨-,-,B',⟨cs,ds,cv,sv,dv,hm,-⟩,-⟩:=hr;rw[hm.m.at 12 rfl];unfold rEnd;cases he:st.ended with
   |true=>simp[he]
   |false=>simp
  rw[hf]at e10 e10d;clear h hBe hR0 hS hB e12 e12d hf;go_enter Tryz.func37,Tryz.ntmps37;go_wp2;go_region
  go_wp2_with (first
   |(go_at_call 39;refine HE.out.mono ?_;intro e w1 hr;obtain⟨rfl,-⟩:=id hr;obtain⟨k12,HR⟩:=HX.out w1 hr;clear hr))
  go_ret;exact HR.out
 ·cases he:st.ended with
  |true=>
   have hS:rStepS st=st:=by unfold rStepS;rw[if_neg hf,he];rfl
   have hB:rStepB st=false:=by unfold rStepB;simp[he]
   rw[hS,hB];rw[he]at e12 e12d;have HR:Hid (RRes lo M Ib B w st (.bool false) (.returned (.bool false)) w.drew):=⟨rfl,AG.of_below (Below.refl _ _).drew,B,hR0.keep (Below.refl _ _).drew,λb hb=>Or.inl hb⟩;clear h hBe hR0 hS hB HE;go_enter Tryz.func37,Tryz.ntmps37;go_wp2;go_region
   go_wp2;go_ret;exact HR.out
  |false=>
   have hS:rStepS st={st with steps:=st.steps+1}:=by unfold rStepS;rw[if_neg hf,he];rfl
   have hB:rStepB st=true:=by unfold rStepB;simp[he,hf]
   rw[hS,hB];rw[he]at e12 e12d;have HR:Hid (RRes lo M Ib B w {st with steps:=st.steps+1} (.bool true) (.returned (.bool true)) (w.setCell ⟨M,10,none⟩ (.int .i64 (st.steps+1)))):=by
    have h1:=h.setM (i:=10) (u:=.int .i64 (st.steps+1)) (st':={st with steps:=st.steps+1}) rfl (by omega) rfl rfl rfl;exact⟨rfl,(AG.refl _ _).set (Or.inl hself) _,_,⟨cs,ds,cv,sv,dv,h1,rfl⟩,λb hb=>Or.inl (by rw[hBe];exact hb)⟩
   clear h hBe hR0 hS hB HE;go_enter Tryz.func37,Tryz.ntmps37;go_wp2;go_region
   go_wp2;go_ret;exact HR.out.drew
theorem Tryz.intK:(Tryz.prog.info? 3).map (λi=>(i.zero,i.size,i.bytes))=some (some (.int .i64 0),1,8):=by kernel_rfl
theorem Tryz.rcellK:(Tryz.prog.info? 88).map (λi=>(i.zero,i.size,i.bytes))=some (some (.agg #[.int .u8 0,.int .i64 0,.slice none 0 0]),3,40):=by kernel_rfl
theorem rPut_any{lo:Nat}{w:World}{M Ib:Nat}{st:ASt}{B:List Nat}(x:Int)(h:RM lo w M Ib st B)(hl:st.now.s.length<=1000000000):
 Calls Tryz.prog 84 #[.pointer (some ⟨M,0,none⟩),.int .i64 x] w λe w'=>RRes lo M Ib B w (rStk (st.now.s++[x]) st) (.tuple #[]) e w':=by
 obtain⟨ii,hii,hij⟩:=Option.map_eq_some_iff.1 Tryz.intK;simp only[Prod.mk.injEq]at hij;obtain⟨hi0,hi1,hi2⟩:=hij;obtain⟨cs,ds,cv,sv,dv,h,hBe⟩:=h;obtain⟨sp,sc,rfl⟩:=row_slice h.sk;have e2:=h.m.at 2 rfl;have e2a:=λo=>alloc_old w o _ _ _ e2;have HOW:=hid h.sk;have HNX:Hid (∀Z w2 G c,Below w.heap.size w Z->Z.grownBy w2 (Value.slice sp st.now.s.length sc).ownBlock->((Value.slice sp st.now.s.length sc).ownBlock=some G∨G=Z.heap.size)->w2.ownsRow lo 3 1 (.slice (some ⟨G,0,none⟩) (st.now.s.length+1) c) (st.now.s.length+1) (iC st.now.s++[.int .i64 x])->(w2.cell? ⟨M,2,none⟩=some (.slice sp st.now.s.length sc)∧w2.frozen? ⟨M,2,none⟩=false)∧Hid (RRes lo M Ib B w (rStk (st.now.s++[x]) st) (.tuple #[]) (.returned (.tuple #[])) (w2.setCell ⟨M,2,none⟩ (.slice (some ⟨G,0,none⟩) (st.now.s.length+1) c)))):=λZ w2 G c hbz hg hat hown=>by
  have hA:AG (vB (.slice sp st.now.s.length sc)) w w2:=AG.append hbz hg;have hz:=hbz.size;have hnM:M∉vB (.slice sp st.now.s.length sc):=λhm=>(List.nodup_cons.1 h.nd).1 (List.mem_append_right _ (List.mem_append_left _ hm));have hbM:=hA.block M h.m.lt hnM;obtain⟨t1,t2,t3⟩:=h.turnS hA (sv':=.slice (some ⟨G,0,none⟩) (st.now.s.length+1) c) (s':=st.now.s++[x]) (by rw[List.length_append,iC_app];exact hown) (λb hb'=>by
   rw[vB_slice]at hb';obtain rfl:=List.mem_singleton.1 hb';rcases hat with e|e
   ·exact Or.inl (mem_vB.2 e)
   ·right;omega)
  rw[<-hBe]at t2 t3;exact⟨⟨cell_same hbM e2,by rw[World.frozen?_of_block (a:=⟨M,2,none⟩) hbM];exact h.m.fz 2⟩,rfl,t2,_,⟨cs,ds,cv,_,dv,t1,rfl⟩,t3⟩
 have hlz:=h.lz;clear h hBe;go_enter Tryz.func84,Tryz.ntmps84;go_wp2_with (first
  |(at_builtin;refine wpList_append_lies _ rfl (.tmp 9) (.tmp 11) 81 rfl lo 3 ii _ 1 8 Tryz.underlying81 hii hi0 hi1 hi2 rfl (by omega) (.slice sp st.now.s.length sc) st.now.s.length (iC st.now.s) (by first|(simp[Act.eval];done)|(simp[Act.eval,Act.put];done)) (HOW.out.alloc _) ⟨w.heap.size,0,none⟩ 1 1 [.int .i64 x] (by first|(simp[Act.eval];done)|(simp[Act.eval,Act.put];done)) rfl (by have h:=World.news_of_block (heap_alloc_new w (Obj.cells #[.int .i64 x] 3));simpa using h) (by intro u hu;simp at hu;rcases hu with rfl;rfl) (by omega) (by unfold maxLen;omega) (by omega) (by simp;omega) _ rfl ?_;intro G1 c1 w7 hown hgrow hat hlt1;obtain⟨⟨k7,f7⟩,HRR⟩:=HNX.out _ _ _ _ ((Below.refl _ _).alloc (Nat.le_refl _) _) hgrow hat hown;clear hown hgrow hat hlt1))
 refine bE ?_;exact HRR.out
def rRoomB(n:Int)(st:ASt):Bool:=decide (st.used+n<=st.spare)
def rRoomS(n:Int)(st:ASt):ASt:=if rRoomB n st then {st with used:=st.used+n} else rEnd 2 st
theorem rRoom_any{lo:Nat}{w:World}{M Ib:Nat}{st:ASt}{B:List Nat}(n:Int)(hn:0<=n∧n<=1000000000)(h:RM lo w M Ib st B)(hb:0<=st.used∧st.used<=1000000000000):
 Calls Tryz.prog 82 #[.pointer (some ⟨M,0,none⟩),.int .i64 n] w λe w'=>RRes lo M Ib B w (rRoomS n st) (.bool (rRoomB n st)) e w':=by
 have HE:=hid (rEnd_any 2 (h.keep (Below.refl _ _).drew));have hR0:=h;obtain⟨cs,ds,cv,sv,dv,h,hBe⟩:=h;have hself:M∈B:=by rw[hBe];exact List.mem_cons_self ..
 have e7:=h.m.at 7 rfl;have e11:=h.m.at 11 rfl;have f11:=h.m.fz 11;have e7d:w.drew.cell? ⟨M,7,none⟩=_:=e7;have e11d:w.drew.cell? ⟨M,11,none⟩=_:=e11;have f11d:w.drew.frozen? ⟨M,11,none⟩=_:=f11;have hw:IntKind.i64.wrap (st.used+n)=st.used+n:=i64w (by omega);by_cases hf:st.used+n<=st.spare
 ·have hB:rRoomB n st=true:=by unfold rRoomB;simpa using hf
  have hS:rRoomS n st={st with used:=st.used+n}:=by unfold rRoomS;rw[hB];rfl
  rw[hS,hB];have hng:¬(st.spare<st.used+n):=by omega
  have HR:Hid (RRes lo M Ib B w {st with used:=st.used+n} (.bool true) (.returned (.bool true)) (w.setCell ⟨M,11,none⟩ (.int .i64 (st.used+n)))):=by
   have h1:=h.setM (i:=11) (u:=.int .i64 (st.used+n)) (st':={st with used:=st.used+n}) rfl (by omega) rfl rfl rfl;exact⟨rfl,(AG.refl _ _).set (Or.inl hself) _,_,⟨cs,ds,cv,sv,dv,h1,rfl⟩,λb hb=>Or.inl (by rw[hBe];exact hb)⟩
  clear h hBe hR0 hS hB HE;go_enter Tryz.func82,Tryz.ntmps82;go_wp2;go_region
  go_wp2;go_ret;exact HR.out.drew
 ·have hB:rRoomB n st=false:=by unfold rRoomB;simpa using hf
  have hS:rRoomS n st=rEnd 2 st:=by unfold rRoomS;rw[hB];rfl
  rw[hS,hB];have hng:st.spare<st.used+n:=by omega
  clear h hBe hR0 hS hB;go_enter Tryz.func82,Tryz.ntmps82;go_wp2;go_region
  go_wp2_with (first
   |(go_at_call 39;refine HE.out.mono ?_;intro e w1 hr;obtain⟨rfl,-⟩:=id hr;have HR:=hid (hr.of (AG.of_below (Below.refl _ _).drew) (λb hb=>Or.inl hb) (r':=.bool false) (e':=.returned (.bool false)) rfl);clear hr))
  go_ret;exact HR.out
section
variable {lo:Nat} {w w4:World} {M Ib:Nat} {st:ASt} {cs:List (MCl×Value)} {ds:List (AFr×Value)} {cv sv dv:Value}
theorem RMem.turnC(h:RMem lo w M Ib st cs ds cv sv dv)(hA:AG (vB cv) w w4){cv':Value}{cs':List (MCl×Value)}(hown:w4.ownsRow lo 88 3 cv' cs'.length (cs'.flatMap rcC))(hfl:∀x∈cs',PtX (λb=>lo<=b∧b∉rB M cv sv dv ds) w x.2 (cP x.1))(hv:∀b∈vB cv',b∈vB cv∨w.heap.size<=b):
 RMem lo (w4.setCell ⟨M,1,none⟩ cv') M Ib {st with cells:=cs'.map (·.1)} cs' ds cv' sv dv∧AG (rB M cv sv dv ds) w (w4.setCell ⟨M,1,none⟩ cv')∧∀b∈rB M cv' sv dv ds,b∈rB M cv sv dv ds∨w.heap.size<=b:=by
 have hrg:=h.rg;have hnd:([M]++(vB cv++(vB sv++(vB dv++dB ds)))).Nodup:=h.nd;have hnd':([M]++(vB cv'++(vB sv++(vB dv++dB ds)))).Nodup:=nd_swap hnd (vB_nd _) hv λb hb=>(hrg b hb).2;have hd:=List.nodup_append.1 hnd;have hd2:=List.nodup_append.1 hd.2.1;have hnC:∀b,b=M∨b∈vB sv++(vB dv++dB ds)->b∉vB cv:=λb hb hm=>by
  rcases hb with hb|hb
  ·exact hd.2.2 b (List.mem_singleton.2 hb) b (List.mem_append_left _ hm) rfl
  ·exact hd2.2.2 b hm b hb rfl
 have hM:∀b,b∈vB cv'++(vB sv++(vB dv++dB ds))->b≠M:=λb hb e=>(List.nodup_cons.1 hnd').1 (e▸hb);have hz:=hA.size;have hblk:∀b,b<w.heap.size->b∉vB cv->b≠M->(w4.setCell ⟨M,1,none⟩ cv').heap[b]?=w.heap[b]?:=λb h1 h2 h3=>by rw[Below.heap_setCell _ _ _ _ h3];exact hA.block b h1 h2
 have hfr:∀v,(∀b∈vB v,b∈vB sv++(vB dv++dB ds))->Fr (vB v) w (w4.setCell ⟨M,1,none⟩ cv'):=λv hv b hb=>hblk b (hrg b (List.mem_cons_of_mem _ (List.mem_append_right _ (hv b hb)))).2 (hnC b (Or.inr (hv b hb))) (hM b (List.mem_append_right _ (hv b hb)));have hAG:AG (rB M cv sv dv ds) w (w4.setCell ⟨M,1,none⟩ cv'):=AG.set ⟨hA.os,hA.tape,hA.output,hA.size,λk hk hX=>hA.block k hk λhm=>hX (List.mem_cons_of_mem _ (List.mem_append_left _ hm))⟩ (Or.inl (List.mem_cons_self ..)) _;have hm4:FBL w4 M (rL Ib cv sv dv st):=h.m.of_block (hA.block M h.m.lt (hnC M (Or.inl rfl))) hz;have hnew:∀b∈rB M cv' sv dv ds,b∈rB M cv sv dv ds∨w.heap.size<=b:=λb hb=>by
  rcases List.mem_cons.1 hb with rfl|hb
  ·exact Or.inl (List.mem_cons_self ..)
  rcases List.mem_append.1 hb with hb|hb
  ·exact(hv b hb).imp (λh=>List.mem_cons_of_mem _ (List.mem_append_left _ h)) id
  ·exact Or.inl (List.mem_cons_of_mem _ (List.mem_append_right _ hb))
 refine⟨⟨hm4.set (i:=1) (by simp[rL]) cv',?_,λx hx=>(hfl x hx).fr λb ⟨g1,g2⟩ hbl=>⟨⟨g1,λhm=>?_⟩,hblk b hbl (λhm=>g2 (List.mem_cons_of_mem _ (List.mem_append_left _ hm))) (λe=>g2 (e▸List.mem_cons_self ..))⟩,row_fr h.sk (hfr sv λb hb=>List.mem_append_left _ hb),row_fr h.dp (hfr dv λb hb=>List.mem_append_right _ (List.mem_append_left _ hb)),λx hx=>row_fr (h.dk x hx) (hfr x.2 λb hb=>List.mem_append_right _ (List.mem_append_right _ (List.mem_flatMap.2 ⟨x,hx,hb⟩))),rfl,h.hds,hnd',h.ml⟩,hAG,hnew⟩
 ·exact row_fr hown λb hb=>Below.heap_setCell _ _ _ _ (hM b (List.mem_append_left _ hb))
 ·rcases hnew b hm with h1|h1
  ·exact g2 h1
  ·omega
end
def rAdd(x:MCl)(st:ASt):ASt:={st with cells:=st.cells++[x]}
def rMake(x:MCl)(st:ASt):ASt:=rStk (st.now.s++[(st.cells.length:Int)]) (rAdd x st)
def MkC(lo M Ib:Nat)(B:List Nat)(w:World)(st:ASt)(wx:World):Prop:=∃B1,RM lo wx M Ib st B1∧AG B w wx∧∀b∈B1,b∈B∨w.heap.size<=b
theorem MkC.drew{lo M Ib:Nat}{B:List Nat}{w:World}{st:ASt}{wx:World}(h:MkC lo M Ib B w st wx):MkC lo M Ib B w st wx.drew:=by
 obtain⟨B1,h1,h2,h3⟩:=h;exact⟨B1,h1.keep (Below.refl _ _).drew,h2.then (Below.refl _ _).drew,h3⟩
theorem rMake_any{lo:Nat}{w:World}{M Ib:Nat}{st:ASt}{B:List Nat}(x:MCl)(pv:Value)(hx:PtX (λb=>lo<=b∧b∉B) w pv (cP x))(h:RM lo w M Ib st B)(hl:st.now.s.length<=1000000000)(hcl:st.cells.length<=1000000000):
 Calls Tryz.prog 83 #[.pointer (some ⟨M,0,none⟩),.agg #[.int .u8 (kByte x.kind),.int .i64 (cN x),pv]] w λe w'=>RRes lo M Ib B w (rMake x st) (.tuple #[]) e w':=by
 obtain⟨ii,hii,hij⟩:=Option.map_eq_some_iff.1 Tryz.rcellK;simp only[Prod.mk.injEq]at hij;obtain⟨hi0,hi1,hi2⟩:=hij;obtain⟨pp,pc,hpe,-⟩:=id hx;obtain⟨pn,hpn⟩:∃pn,(cP x).length=pn:=⟨_,rfl⟩;rw[hpn]at hpe;subst hpe;obtain⟨W,hW⟩:∃W,w.alloc (.cells #[.int .u8 (kByte x.kind),.int .i64 (cN x),.slice pp pn pc] 88)=W:=⟨_,rfl⟩;have hbW:Below w.heap.size w W:=by rw[<-hW];exact(Below.refl _ _).alloc (Nat.le_refl _) _
 have y0:W.cell? ⟨w.heap.size,0,none⟩=some (.int .u8 (kByte x.kind)):=by rw[<-hW];exact alloc_cell w _ _ 0 _ rfl
 have y1:W.cell? ⟨w.heap.size,1,none⟩=some (.int .i64 (cN x)):=by rw[<-hW];exact alloc_cell w _ _ 1 _ rfl
 have y2:W.cell? ⟨w.heap.size,2,none⟩=some (.slice pp pn pc):=by rw[<-hW];exact alloc_cell w _ _ 2 _ rfl
 obtain⟨cs,ds,cv,sv,dv,h,hBe⟩:=h;obtain⟨cp,cc,rfl⟩:=row_slice h.cl;have hcs:cs.length=st.cells.length:=by rw[<-h.hcs,List.length_map]
 have hM:=h.keep hbW;have e1:=hM.m.at 1 rfl;have HOW:=hid hM.cl;have HNX:Hid (∀Z w2 G c,Below W.heap.size W Z->Z.grownBy w2 (Value.slice cp cs.length cc).ownBlock->((Value.slice cp cs.length cc).ownBlock=some G∨G=Z.heap.size)->w2.ownsRow lo 88 3 (.slice (some ⟨G,0,none⟩) (cs.length+1) c) (cs.length+1) (cs.flatMap rcC++[.int .u8 (kByte x.kind),.int .i64 (cN x),.slice pp pn pc])->(w2.cell? ⟨M,1,none⟩=some (.slice cp cs.length cc)∧w2.frozen? ⟨M,1,none⟩=false)∧Hid (MkC lo M Ib B w (rAdd x st) (w2.setCell ⟨M,1,none⟩ (.slice (some ⟨G,0,none⟩) (cs.length+1) c)))):=λZ w2 G c hbz hg hat hown=>by
  have hA:AG (vB (.slice cp cs.length cc)) W w2:=AG.append hbz hg;have hz:=hbz.size;have hz2:=hbW.size;have hnM:M∉vB (.slice cp cs.length cc):=λhm=>(List.nodup_cons.1 hM.nd).1 (List.mem_append_left _ hm);have hbM:=hA.block M hM.m.lt hnM;obtain⟨t1,t2,t3⟩:=hM.turnC hA (cv':=.slice (some ⟨G,0,none⟩) (cs.length+1) c) (cs':=cs++[(x,.slice pp pn pc)]) (by
   rw[List.length_append,List.flatMap_append];simp only[List.length_cons,List.length_nil,List.flatMap_cons,List.flatMap_nil,List.append_nil,rcC];exact hown) (λy hy=>by
   rcases List.mem_append.1 hy with hy|hy
   ·exact hM.fl y hy
   ·obtain rfl:=List.mem_singleton.1 hy;exact hx.fr λb hb hlt=>⟨by rw[<-hBe];exact hb,hbW.block b hlt⟩) (λb hb'=>by
   rw[vB_slice]at hb';obtain rfl:=List.mem_singleton.1 hb';rcases hat with e|e
   ·exact Or.inl (mem_vB.2 e)
   ·right;omega)
  rw[List.map_append,hM.hcs]at t1;rw[<-hBe]at t2 t3;exact⟨⟨cell_same hbM e1,by rw[World.frozen?_of_block (a:=⟨M,1,none⟩) hbM];exact hM.m.fz 1⟩,_,⟨_,_,_,_,_,t1,rfl⟩,(AG.of_below hbW (X:=B)).trans t2 λb hb=>Or.inl hb,λb hb=>(t3 b hb).imp id λh1=>by omega⟩
 have HFI:Hid (∀wx,MkC lo M Ib B w (rAdd x st) wx->∃cp' cc',wx.cell? ⟨M,1,none⟩=some (.slice cp' (st.cells.length+1) cc')∧Hid (Calls Tryz.prog 84 #[.pointer (some ⟨M,0,none⟩),.int .i64 (st.cells.length:Int)] wx λe w'=>e=.returned (.tuple #[])∧Hid (RRes lo M Ib B w (rMake x st) (.tuple #[]) (.returned (.tuple #[])) w'))):=by
  rintro wx ⟨B1,hR,hA,hB1⟩;have hR0:=hR;obtain⟨cs1,ds1,cv1,sv1,dv1,hm,-⟩:=hR;obtain⟨cp',cc',rfl⟩:=row_slice hm.cl;have hl1:cs1.length=st.cells.length+1:=by
   have:=congrArg List.length hm.hcs;simpa[rAdd]using this
  refine⟨cp',cc',by rw[<-hl1];exact hm.m.at 1 rfl,(rPut_any (st.cells.length:Int) hR0 hl).mono λe w' hr=>?_⟩;have he:=hr.1;exact⟨he,hr.of hA hB1 rfl⟩
 have e1a:=λo=>alloc_old W o _ _ _ e1;have y0a:=λo=>alloc_old W o _ _ _ y0;have y1a:=λo=>alloc_old W o _ _ _ y1;have y2a:=λo=>alloc_old W o _ _ _ y2;have hlz:=hM.lz;have hw:IntKind.i64.wrap (((st.cells.length+1:Nat):Int)-1)=(st.cells.length:Int):=by rw[IntKind.wrap_i64];omega
 have hcl2:cs.length<=1000000000:=by omega
 clear h hM hBe hx hbW hcs;go_enter Tryz.func83,Tryz.ntmps83;go_upto_region 1 with fail
 try rw[hW]
 go_cut [] (λwx=>Hid (MkC lo M Ib B w (rAdd x st) wx))
 case first=>
  clear hW;go_region_law
   (first
    |(refine step_append_lies _ rfl (.tmp 8) (.tmp 10) 80 rfl lo 88 ii _ 3 40 Tryz.underlying80 hii hi0 hi1 hi2 rfl (by omega) (.slice cp cs.length cc) cs.length (cs.flatMap rcC) (by first|(simp[Act.eval];done)|(simp[Act.eval,Act.put];done)) (HOW.out.alloc _) ⟨W.heap.size,0,none⟩ 1 1 [.int .u8 (kByte x.kind),.int .i64 (cN x),.slice pp pn pc] (by first|(simp[Act.eval];done)|(simp[Act.eval,Act.put];done)) rfl (by have h:=World.news_of_block (heap_alloc_new W (Obj.cells #[.int .u8 (kByte x.kind),.int .i64 (cN x),.slice pp pn pc] 88));simpa using h) (by intro u hu;simp at hu;rcases hu with rfl|rfl|rfl<;>rfl) (by omega) (by unfold maxLen;omega) (by omega) (by simp;omega) _ rfl ?_;intro G1 c1 w7 hown hgrow hat hlt1;obtain⟨⟨k7,f7⟩,HC⟩:=HNX.out _ _ _ _ (by first|exact(Below.refl _ _).alloc (Nat.le_refl _) _|exact((Below.refl _ _).alloc (Nat.le_refl _) _).drew) hgrow hat hown;clear hown hgrow hat hlt1))
  all_goals(try go_wp2)
  all_goals
   go_meet
   first|exact HC|exact MkC.drew HC.out|exact MkC.drew (MkC.drew HC.out)
 case rest=>
  rename World=>wx
  obtain⟨cp',cc',k1,HP⟩:=HFI.out wx hcut.out;clear hcut HFI HNX HOW e1 e1a y0 y1 y2 y0a y1a y2a hW;go_wp2_with (first
   |(go_at_call 84;refine HP.out.mono ?_;rintro e w5 ⟨rfl,HRR⟩))
  refine bE ?_;exact HRR.out
theorem flat3r_at(j:Nat)(hj:j<3):∀(l:List (MCl×Value)) (r:Nat) (hr:r<l.length),(l.flatMap rcC)[r*3+j]?=(rcC l[r])[j]?
 |x::l,0,_=>by rw[List.flatMap_cons,List.getElem?_append_left (by simp[rcC];omega)];simp
 |x::l,r+1,hr=>by
  rw[List.flatMap_cons,List.getElem?_append_right (by simp[rcC];omega),show(r+1)*3+j-(rcC x).length=r*3+j by simp[rcC];omega];simpa using flat3r_at j hj l r (by simpa using hr)
theorem RMem.cellAt{lo:Nat}{w:World}{M Ib:Nat}{st:ASt}{cs:List (MCl×Value)}{ds:List (AFr×Value)}{cv sv dv:Value}(h:RMem lo w M Ib st cs ds cv sv dv){r:Nat}(hr:r<st.cells.length):∃g c pp pn pc,cv=.slice (some ⟨g,0,none⟩) st.cells.length c∧w.cell? ⟨g,r*3,none⟩=some (.int .u8 (kByte st.cells[r].kind))∧w.cell? ⟨g,r*3+1,none⟩=some (.int .i64 (cN st.cells[r]))∧w.cell? ⟨g,r*3+2,none⟩=some (.slice pp pn pc)∧PtX (λb=>lo<=b∧b∉rB M cv sv dv ds) w (.slice pp pn pc) (cP st.cells[r]):=by
 have hl:cs.length=st.cells.length:=by rw[<-h.hcs,List.length_map]
 have hr':r<cs.length:=by omega
 have e:st.cells[r]=cs[r].1:=by simp[<-h.hcs]
 have hf:=h.fl cs[r] (List.getElem_mem _);obtain⟨pp,pc,hpe,-⟩:=id hf;rcases h.cl.2 with⟨-,h0⟩|⟨g,cap,cur,hv,-⟩
 ·omega
 ·have hown:=h.cl;subst hv;refine⟨g,cap,pp,(cP cs[r].1).length,pc,by rw[hl],?_,?_,?_,?_⟩
  ·rw[hown.cellAt _ (by omega),show r*3=r*3+0 by rfl,flat3r_at 0 (by omega) cs r hr',e];rfl
  ·rw[hown.cellAt _ (by omega),flat3r_at 1 (by omega) cs r hr',e];rfl
  ·rw[hown.cellAt _ (by omega),flat3r_at 2 (by omega) cs r hr'];exact congrArg some hpe
  ·rw[e,<-hpe];exact hf
def rkC(op l r:Int):MCl:=⟨if rkR op then 3 else 1,rkN op l r,0,0,[]⟩
def rReck(op:Int)(s:List Int)(l r:MCl)(st:ASt):ASt:=
 if l.kind≠1∨r.kind≠1 then rEnd 3 st else if rkO op r.n=false then rEnd 6 st else if rRoomB 1 st=false then rEnd 2 st else rMake (rkC op l.n r.n) (rStk s (rRoomS 1 st))
theorem kB1(k:Int)(h:0<=k∧k<=5):kByte k=105↔k=1:=by
 unfold kByte;rcases(show k=0∨k=1∨k=2∨k=3∨k=4∨k=5 by omega) with rfl|rfl|rfl|rfl|rfl|rfl<;>simp
theorem rReckons_any{lo:Nat}{w:World}{M Ib:Nat}{st:ASt}{B:List Nat}(op:Int)(hop:op=9∨op=10∨op=11∨op=12∨op=13∨op=14)(h:RM lo w M Ib st B)(hu:0<=st.used∧st.used<=1000000000000)(hl:st.now.s.length<=1000000000)(hcl:st.cells.length<=1000000000){s:List Int}{l r:Nat}(hs:st.now.s=s++[(l:Int),(r:Int)])(hlc:l<st.cells.length)(hrc:r<st.cells.length)(hlk:0<=st.cells[l].kind∧st.cells[l].kind<=5)(hrk:0<=st.cells[r].kind∧st.cells[r].kind<=5):
 Calls Tryz.prog 86 #[.pointer (some ⟨M,0,none⟩),.int .i64 op] w λe w'=>RRes lo M Ib B w (rReck op s st.cells[l] st.cells[r] st) (.tuple #[]) e w':=by
 have hRM:=h;obtain⟨cs,ds,cv,sv,dv,h,hBe⟩:=h;have hsl:st.now.s.length=s.length+2:=by rw[hs];simp
 obtain⟨sg,sc,rfl,hcap,hsc⟩:=stack_slice h.sk (by omega);obtain⟨cg,cc,pp,pn,pc,rfl,r0,r1,r2,-⟩:=h.cellAt (r:=r) hrc;obtain⟨cg',cc',pp',pn',pc',hcv,l0,l1,l2,-⟩:=h.cellAt (r:=l) hlc;cases hcv;have hxr:w.cell? ⟨sg,st.now.s.length-1,none⟩=some (.int .i64 (r:Int)):=by rw[hsc _ (by omega),hsl,hs];simp[iC]
 have hxl:w.cell? ⟨sg,st.now.s.length-2,none⟩=some (.int .i64 (l:Int)):=by rw[hsc _ (by omega),hsl,hs];simp[iC]
 have e1:=h.m.at 1 rfl;have e2:=h.m.at 2 rfl;obtain⟨N,hN⟩:∃N,st.now.s.length=N:=⟨_,rfl⟩;rw[hN]at hxr hxl e2;have HF:Hid (∀X,Below w.heap.size w X->(X.cell? ⟨M,1,none⟩=some (.slice (some ⟨cg,0,none⟩) st.cells.length cc)∧X.cell? ⟨sg,N-1,none⟩=some (.int .i64 (r:Int))∧X.cell? ⟨sg,N-2,none⟩=some (.int .i64 (l:Int)))∧(X.cell? ⟨cg,r*3,none⟩=some (.int .u8 (kByte st.cells[r].kind))∧X.cell? ⟨cg,r*3+1,none⟩=some (.int .i64 (cN st.cells[r]))∧X.cell? ⟨cg,r*3+2,none⟩=some (.slice pp pn pc))∧X.cell? ⟨cg,l*3,none⟩=some (.int .u8 (kByte st.cells[l].kind))∧X.cell? ⟨cg,l*3+1,none⟩=some (.int .i64 (cN st.cells[l]))∧X.cell? ⟨cg,l*3+2,none⟩=some (.slice pp' pn' pc')):=λX hX=>⟨⟨cell_keep hX e1,cell_keep hX hxr,cell_keep hX hxl⟩,⟨cell_keep hX r0,cell_keep hX r1,cell_keep hX r2⟩,cell_keep hX l0,cell_keep hX l1,cell_keep hX l2⟩;have HEN:Hid (∀k X,Below w.heap.size w X->Calls Tryz.prog 39 #[.pointer (some ⟨M,0,none⟩),.int .i64 k] X λe w'=>e=.returned (.tuple #[])∧Hid (RRes lo M Ib B w (rEnd k st) (.tuple #[]) (.returned (.tuple #[])) w')):=λk X hX=>(rEnd_any k (hRM.keep hX)).mono λe w' hr=>⟨hr.1,hr.of (AG.of_below hX) (λb hb=>Or.inl hb) rfl⟩;have HRO:Hid (∀X,Below w.heap.size w X->Calls Tryz.prog 82 #[.pointer (some ⟨M,0,none⟩),.int .i64 1] X λe w1=>e=.returned (.bool (rRoomB 1 st))∧Hid (rRoomB 1 st=false->RRes lo M Ib B w (rEnd 2 st) (.tuple #[]) (.returned (.tuple #[])) w1)∧Hid (rRoomB 1 st=true->Calls Tryz.prog 59 #[.pointer (some ⟨M,0,none⟩)] w1 λe w2=>e=.returned (.int .i64 (r:Int))∧Hid (Calls Tryz.prog 59 #[.pointer (some ⟨M,0,none⟩)] w2 λe w3=>e=.returned (.int .i64 (l:Int))∧Hid (∀(x:MCl) w4,cP x=[]->Below w3.heap.size w3 w4->Calls Tryz.prog 83 #[.pointer (some ⟨M,0,none⟩),.agg #[.int .u8 (kByte x.kind),.int .i64 (cN x),.slice none 0 0]] w4 λe w5=>e=.returned (.tuple #[])∧Hid (RRes lo M Ib B w (rMake x (rStk s (rRoomS 1 st))) (.tuple #[]) (.returned (.tuple #[])) w5))))):=λX hX=>by
  refine(rRoom_any 1 (by omega) (hRM.keep hX) hu).mono λe w1 hr=>?_;have he:=hr.1;have hr1:=hr.of (AG.of_below hX) (λb hb=>Or.inl hb) (r':=.tuple #[]) (e':=.returned (.tuple #[])) rfl;refine⟨he,λhf=>?_,λht=>?_⟩
  ·have e2:rRoomS 1 st=rEnd 2 st:=by unfold rRoomS;rw[hf];rfl
   rw[e2]at hr1;exact hr1
  ·have e2:rRoomS 1 st={st with used:=st.used+1}:=by unfold rRoomS;rw[ht];rfl
   obtain⟨-,hA1,B1,hM1,hB1⟩:=hr1;have hs1:(rRoomS 1 st).now.s=(s++[(l:Int)])++[(r:Int)]:=by rw[e2];show st.now.s=_;rw[hs];simp
   have hlen:(rRoomS 1 st).now.s.length<=1000000000:=by rw[e2];exact hl
   refine(rTake_any hM1 hs1 hlen).mono λe w2 hr2=>?_;have he2:=hr2.1;obtain⟨-,hA2,B2,hM2,hB2⟩:=hr2.of hA1 hB1 (r':=.tuple #[]) (e':=.returned (.tuple #[])) rfl;have hsl2:st.now.s.length=s.length+2:=by rw[hs];simp
   refine⟨he2,(rTake_any (s:=s) (x:=(l:Int)) hM2 rfl (by show(s++[(l:Int)]).length<=_;simp;omega)).mono λe w3 hr3=>?_⟩;have he3:=hr3.1;obtain⟨-,hA3,B3,hM3,hB3⟩:=hr3.of hA2 hB2 (r':=.tuple #[]) (e':=.returned (.tuple #[])) rfl;refine⟨he3,λx w4 hx hb4=>?_⟩;have hM3':RM lo w4 M Ib (rStk s (rRoomS 1 st)) B3:=hM3.keep hb4;refine(rMake_any x (.slice none 0 0) ⟨none,0,by rw[hx];rfl,λi hi=>absurd hi (by rw[hx];simp)⟩ hM3' (by show s.length<=_;omega) (by show(rRoomS 1 st).cells.length<=_;rw[e2];exact hcl)).mono λe w5 hr5=>?_;have he5:=hr5.1;exact⟨he5,hr5.of (hA3.then hb4) hB3 rfl⟩
 have i3:IntKind.i64.wrap ((N:Int)-1)=(N:Int)-1:=by rw[IntKind.wrap_i64];omega
 have i4:IntKind.i64.wrap ((N:Int)-2)=(N:Int)-2:=by rw[IntKind.wrap_i64];omega
 have i5:((N:Int)-1).toNat=N-1:=by omega
 have i6:((N:Int)-2).toNat=N-2:=by omega
 have j0:(0:Int)<=(N:Int)-1:=by omega
 have j1:(N:Int)-1<(N:Int):=by omega
 have j2:(0:Int)<=(N:Int)-2:=by omega
 have j3:(N:Int)-2<(N:Int):=by omega
 have ri0:(0:Int)<=(r:Int):=by omega
 have ri1:(r:Int)<(st.cells.length:Int):=by omega
 have li0:(0:Int)<=(l:Int):=by omega
 have li1:(l:Int)<(st.cells.length:Int):=by omega
 obtain⟨⟨m1,mr,-⟩,⟨a0,a1,a2⟩,-⟩:=HF.out w (Below.refl _ _);have m1a:=λo=>alloc_old w o _ _ _ m1;have mra:=λo=>alloc_old w o _ _ _ mr;have a0a:=λo=>alloc_old w o _ _ _ a0;have a1a:=λo=>alloc_old w o _ _ _ a1;have a2a:=λo=>alloc_old w o _ _ _ a2;clear h hsc hBe e1 hxr hxl r0 r1 r2 l0 l1 l2 hsl hN hs;go_enter Tryz.func86,Tryz.ntmps86;go_upto_region 1 with fail
 go_region
 obtain⟨W1,hW1⟩:∃W1,(w.alloc (Obj.cells #[.int .u8 (kByte st.cells[r].kind),.int .i64 (cN st.cells[r]),.slice pp pn pc] 88)).drew=W1:=⟨_,rfl⟩;have HB1:Hid (Below w.heap.size w W1):=by rw[<-hW1];exact((Below.refl _ _).alloc (Nat.le_refl _) _).drew
 have hC5:C3 W1 w.heap.size (.int .u8 (kByte st.cells[r].kind)) (.int .i64 (cN st.cells[r])) (.slice pp pn pc):=by rw[<-hW1];exact(C3.new w _ _ _ _).keep (Below.refl _ _).drew
 have HC5:=hid hC5;rw[hW1];clear hW1 m1 mr a0 a1 a2 m1a mra a0a a1a a2a hC5;obtain⟨⟨m1,-,ml⟩,-,b0,b1,b2⟩:=HF.out W1 HB1.out;have m1a:=λo=>alloc_old W1 o _ _ _ m1;have mla:=λo=>alloc_old W1 o _ _ _ ml;have b0a:=λo=>alloc_old W1 o _ _ _ b0;have b1a:=λo=>alloc_old W1 o _ _ _ b1;have b2a:=λo=>alloc_old W1 o _ _ _ b2;go_upto_region 2 with fail
 go_region
 obtain⟨W2,hW2⟩:∃W2,(W1.alloc (Obj.cells #[.int .u8 (kByte st.cells[l].kind),.int .i64 (cN st.cells[l]),.slice pp' pn' pc'] 88)).drew=W2:=⟨_,rfl⟩;have hb12:Below W1.heap.size W1 W2:=by rw[<-hW2];exact((Below.refl _ _).alloc (Nat.le_refl _) _).drew
 have HB2:=hid (HB1.out.trans (hb12.mono HB1.out.size));obtain⟨x0,x1,-,-⟩:=HC5.out.keep hb12;obtain⟨z0,z1,-,-⟩:C3 W2 W1.heap.size (.int .u8 (kByte st.cells[l].kind)) (.int .i64 (cN st.cells[l])) (.slice pp' pn' pc'):=by rw[<-hW2];exact(C3.new W1 _ _ _ _).keep (Below.refl _ _).drew
 rw[hW2];clear hW2 hb12 m1 ml b0 b1 b2 m1a mla b0a b1a b2a HC5 HF;have kr:=kB1 st.cells[r].kind hrk;have kl:=kB1 st.cells[l].kind hlk;have HX:Hid (rReck op s st.cells[l] st.cells[r] st=if st.cells[l].kind≠1∨st.cells[r].kind≠1 then rEnd 3 st else if rkO op st.cells[r].n=false then rEnd 6 st else if rRoomB 1 st=false then rEnd 2 st else rMake (rkC op st.cells[l].n st.cells[r].n) (rStk s (rRoomS 1 st))):=rfl;have cl:st.cells[l].kind=1->cN st.cells[l]=st.cells[l].n:=λe=>by simp[cN,e]
 have cr:st.cells[r].kind=1->cN st.cells[r]=st.cells[r].n:=λe=>by simp[cN,e]
 generalize st.cells[l].kind=lk at*;generalize st.cells[r].kind=rk at*;generalize st.cells[l].n=ln at*;generalize st.cells[r].n=rn at*;generalize cN st.cells[l]=lc at*;generalize cN st.cells[r]=rc at*;by_cases hk2:lk≠1∨rk≠1
 ·have HXX:Hid (rReck op s st.cells[l] st.cells[r] st=rEnd 3 st):=by show rReck op s st.cells[l] st.cells[r] st=_;rw[HX.out,if_pos hk2]
  have HE3:=hid (HEN.out 3 W2 HB2.out);clear HX HEN HRO cl cr;cases hb:(kByte rk==105) with
  |false=>
   generalize kByte rk=rkb at*;generalize kByte lk=lkb at*;clear kr kl hk2 hlk hrk;go_wp2_with (first
    |(go_at_call 39;refine HE3.out.mono ?_;rintro e w3 ⟨rfl,HRR⟩))
   refine bE ?_;rw[HXX.out];exact HRR.out
  |true=>
   have hb2:(kByte lk==105)=false:=by
    rw[beq_eq_false_iff_ne];intro e;have h1:=kl.1 e;have h2:=kr.1 (by simpa using hb);omega
   rw[show kByte rk=105 by simpa using hb]at x0;generalize kByte lk=lkb at*;clear kr kl hk2 hlk hrk hb;go_wp2_with (first
    |(go_at_call 39;refine HE3.out.mono ?_;rintro e w3 ⟨rfl,HRR⟩))
   refine bE ?_;rw[HXX.out];exact HRR.out
 ·obtain rfl:lk=1:=by omega
  obtain rfl:rk=1:=by omega
  obtain rfl:=cl rfl;obtain rfl:=cr rfl;have k105:kByte 1=105:=rfl;rw[k105]at x0 z0;have HXY:Hid (rReck op s st.cells[l] st.cells[r] st=if rkO op rc=false then rEnd 6 st else if rRoomB 1 st=false then rEnd 2 st else rMake (rkC op lc rc) (rStk s (rRoomS 1 st))):=by show rReck op s st.cells[l] st.cells[r] st=_;rw[HX.out,if_neg hk2]
  have HRK:=hid (λX=>reckon_any op lc rc X hop);have HMK:Hid (∀X w3 (K:Prop),(∀(x:MCl) w4,cP x=[]->Below w3.heap.size w3 w4->Calls Tryz.prog 83 #[.pointer (some ⟨M,0,none⟩),.agg #[.int .u8 (kByte x.kind),.int .i64 (cN x),.slice none 0 0]] w4 λe w5=>e=.returned (.tuple #[])∧Hid (RRes lo M Ib B w (rMake x (rStk s (rRoomS 1 st))) (.tuple #[]) (.returned (.tuple #[])) w5))->Below w3.heap.size w3 X->Calls Tryz.prog 83 #[.pointer (some ⟨M,0,none⟩),.agg #[.int .u8 (if rkR op then 114 else 105),.int .i64 (rkN op lc rc),.slice none 0 0]] X λe w5=>e=.returned (.tuple #[])∧Hid (RRes lo M Ib B w (rMake (rkC op lc rc) (rStk s (rRoomS 1 st))) (.tuple #[]) (.returned (.tuple #[])) w5)):=λX w3 _ hm hb=>by
   have:=hm (rkC op lc rc) X (by unfold rkC cP;cases rkR op<;>simp) hb;have e1:kByte (rkC op lc rc).kind=if rkR op then 114 else 105:=by unfold rkC kByte;cases rkR op<;>simp
   have e2:cN (rkC op lc rc)=rkN op lc rc:=by unfold rkC cN;cases rkR op<;>simp
   rw[e1,e2]at this;exact this
  clear HX hk2 kr kl hlk hrk cl cr hop k105;generalize rkC op lc rc=cx at*;generalize rkN op lc rc=nx at*;generalize rkR op=rx at*;cases hok:rkO op rc with
  |false=>
   have HE6:=hid (λX (h:Below w.heap.size w X)=>HEN.out 6 X h);rw[hok]at HRK HXY;clear HEN HRO HMK;go_wp2_with (first
    |(go_at_call 114;refine(HRK.out _).mono ?_;rintro e w3 ⟨rfl,rfl⟩)
    |(go_at_call 39;refine(HE6.out _ HB2.out).mono ?_;rintro e w3 ⟨rfl,HRR⟩))
   refine bE ?_;rw[HXY.out];exact HRR.out
  |true=>
   rw[hok]at HRK HXY;clear hok HEN;have hR0:=HRO.out W2 HB2.out;clear HRO;cases hrb:rRoomB 1 st with
   |false=>
    have HR1:Hid (Calls Tryz.prog 82 #[.pointer (some ⟨M,0,none⟩),.int .i64 1] W2 λe w1=>e=.returned (.bool false)∧Hid (RRes lo M Ib B w (rEnd 2 st) (.tuple #[]) (.returned (.tuple #[])) w1)):=hR0.mono λe w1 hr=>⟨by rw[hr.1,hrb],hr.2.1.out hrb⟩;rw[hrb]at HXY;clear hR0 hrb;go_wp2_with (first
     |(go_at_call 114;refine(HRK.out _).mono ?_;rintro e w3 ⟨rfl,rfl⟩)
     |(go_at_call 82;refine HR1.out.mono ?_;rintro e w3 ⟨rfl,HRR⟩))
    refine bE ?_;rw[HXY.out];exact HRR.out
   |true=>
    have HR1:=hid (hR0.mono (R':=λe w1=>e=.returned (.bool true)∧Hid (Calls Tryz.prog 59 #[.pointer (some ⟨M,0,none⟩)] w1 λe w2=>e=.returned (.int .i64 (r:Int))∧Hid (Calls Tryz.prog 59 #[.pointer (some ⟨M,0,none⟩)] w2 λe w3=>e=.returned (.int .i64 (l:Int))∧Hid (∀X,Below w3.heap.size w3 X->Calls Tryz.prog 83 #[.pointer (some ⟨M,0,none⟩),.agg #[.int .u8 (if rx then 114 else 105),.int .i64 nx,.slice none 0 0]] X λe w5=>e=.returned (.tuple #[])∧Hid (RRes lo M Ib B w (rMake cx (rStk s (rRoomS 1 st))) (.tuple #[]) (.returned (.tuple #[])) w5))))) λe w1 hr=>⟨by rw[hr.1,hrb],(hr.2.2.out hrb).mono λe w2 hr=>⟨hr.1,hr.2.out.mono λe w3 hr=>⟨hr.1,λX hX=>HMK.out X w3 True hr.2.out hX⟩⟩⟩);rw[hrb]at HXY;clear hR0 hrb HMK;cases rx with
    |false=>
     go_wp2_with (first
      |(go_at_call 114;refine(HRK.out _).mono ?_;rintro e w3 ⟨rfl,rfl⟩)
      |(go_at_call 82;refine HR1.out.mono ?_;rintro e w3 ⟨rfl,HT1⟩;clear HR1)
      |(go_at_call 59;refine HT1.out.mono ?_;rintro e w4 ⟨rfl,HT2⟩;clear HT1)
      |(go_at_call 59;refine HT2.out.mono ?_;rintro e w5 ⟨rfl,HM3⟩;clear HT2)
      |(go_at_call 83;refine(HM3.out _ ?_).mono ?_;exact(Below.refl _ _).alloc (Nat.le_refl _) _;rintro e w6 ⟨rfl,HRR⟩))
     refine bE ?_;rw[HXY.out];exact HRR.out
    |true=>
     go_wp2_with (first
      |(go_at_call 114;refine(HRK.out _).mono ?_;rintro e w3 ⟨rfl,rfl⟩)
      |(go_at_call 82;refine HR1.out.mono ?_;rintro e w3 ⟨rfl,HT1⟩;clear HR1)
      |(go_at_call 59;refine HT1.out.mono ?_;rintro e w4 ⟨rfl,HT2⟩;clear HT1)
      |(go_at_call 59;refine HT2.out.mono ?_;rintro e w5 ⟨rfl,HM3⟩;clear HT2)
      |(go_at_call 83;refine(HM3.out _ ?_).mono ?_;exact(Below.refl _ _).alloc (Nat.le_refl _) _;rintro e w6 ⟨rfl,HRR⟩))
     refine bE ?_;rw[HXY.out];exact HRR.out
end Go.Proofs.YtahmgjjgikgpoaaGreatDoor
