import Derived.Test.YtlccndplhfcknaaGreatDoorJwJ
set_option maxRecDepth 100000
set_option maxHeartbeats 2000000
namespace Go.Proofs.YtlccndplhfcknaaGreatDoor
open Go.RowKit Go.Sort
def newCell(k:Nat):MCl:=⟨4,(k:Int),0,0,[]⟩
def newSt(ng:Nat)(fuel cells:Int):MSt:=⟨(List.range ng).map newCell,[],⟨0,[],0⟩,[],0,fuel,0,cells,0,0,[]⟩
theorem own_put5{w:World}{B:Nat}{e:TypeId}{g n c k:Nat}{zs:List Value}{cs:List (List Value)}(h:w.ownsRow B e 5 (.slice (some ⟨g,0,none⟩) n c) n ((List.range (n*5)).map (rowF 5 zs cs)))(hk:cs.length=k)(hn:k<n)(x0 x1 x2 x3 x4:Value):(((((w.setCell ⟨g,k*5,none⟩ x0).setCell ⟨g,k*5+1,none⟩ x1).setCell ⟨g,k*5+2,none⟩ x2).setCell ⟨g,k*5+3,none⟩ x3).setCell ⟨g,k*5+4,none⟩ x4).ownsRow B e 5 (.slice (some ⟨g,0,none⟩) n c) n ((List.range (n*5)).map (rowF 5 zs (cs++[[x0,x1,x2,x3,x4]]))):=by
 subst hk;have h5:=((((((h.stored (cs.length*5) x0).1.stored (cs.length*5+1) x1).1.stored (cs.length*5+2) x2).1.stored (cs.length*5+3) x3).1.stored (cs.length*5+4) x4).1);have e:((((((List.range (n*5)).map (rowF 5 zs cs)).set (cs.length*5) x0).set (cs.length*5+1) x1).set (cs.length*5+2) x2).set (cs.length*5+3) x3).set (cs.length*5+4) x4=(List.range (n*5)).map (rowF 5 zs (cs++[[x0,x1,x2,x3,x4]])):=by
  apply List.ext_getElem
  ·simp
  ·intro i h1 h2;simp only[List.getElem_set,List.getElem_map,List.getElem_range];by_cases q4:cs.length*5+4=i
   ·subst q4;rw[if_pos rfl,rowF_new (by omega),show(cs.length*5+4) % 5=4 by omega];rfl
   rw[if_neg q4];by_cases q3:cs.length*5+3=i
   ·subst q3;rw[if_pos rfl,rowF_new (by omega),show(cs.length*5+3) % 5=3 by omega];rfl
   rw[if_neg q3];by_cases q2:cs.length*5+2=i
   ·subst q2;rw[if_pos rfl,rowF_new (by omega),show(cs.length*5+2) % 5=2 by omega];rfl
   rw[if_neg q2];by_cases q1:cs.length*5+1=i
   ·subst q1;rw[if_pos rfl,rowF_new (by omega),show(cs.length*5+1) % 5=1 by omega];rfl
   rw[if_neg q1];by_cases q0:cs.length*5=i
   ·subst q0;rw[if_pos rfl,rowF_new (by omega),show(cs.length*5) % 5=0 by omega];rfl
   rw[if_neg q0,rowF_other (by omega)]
 rw[e]at h5;exact h5
theorem flat5_at(j:Nat)(hj:j<5):∀(l:List (MCl×Value)) (r:Nat) (hr:r<l.length),(l.flatMap mcC)[r*5+j]?=(mcC l[r])[j]?
 |x::l,0,_=>by rw[List.flatMap_cons,List.getElem?_append_left (by simp[mcC];omega)];simp
 |x::l,r+1,hr=>by
  rw[List.flatMap_cons,List.getElem?_append_right (by simp[mcC];omega),show(r+1)*5+j-(mcC x).length=r*5+j by simp[mcC];omega];simpa using flat5_at j hj l r (by simpa using hr)
theorem flat5_len:∀l:List (MCl×Value),(l.flatMap mcC).length=l.length*5
 |[]=>rfl
 |x::l=>by rw[List.flatMap_cons,List.length_append,flat5_len l,List.length_cons];simp[mcC];omega
theorem row5(L:List (MCl×Value))(zs:List Value):(List.range (L.length*5)).map (rowF 5 zs (L.map mcC))=L.flatMap mcC:=by
 apply List.ext_getElem?;intro i;by_cases hi:i<L.length*5
 ·have hr:i / 5<L.length:=by omega
  have h1:=flat5_at (i % 5) (by omega) L (i / 5) hr;rw[show i / 5*5+i % 5=i by omega]at h1;rw[h1,List.getElem?_map,List.getElem?_range hi,Option.map_some,rowF_at (by rw[List.length_map];exact hr),List.getElem_map];have:i % 5<(mcC L[i / 5]).length:=by simp[mcC];omega
  rw[List.getElem?_eq_getElem this];rfl
 ·rw[List.getElem?_eq_none (by simp;omega),List.getElem?_eq_none (by rw[flat5_len];omega)]
theorem own_made(w:World)(z:Array Value)(n:Nat)(t:TypeId)(lo:Nat)(hlo:lo<=w.heap.size)(hz:z.size=5)(hn:n<=maxLen):(w.alloc (.cells (madeCells z (n*5)) t)).ownsRow lo t 5 (.slice (some ⟨w.heap.size,0,none⟩) n n) n ((List.range (n*5)).map (rowF 5 z.toList [])):=by
 have h:=World.ownsRow_lit (base:=lo) (e:=t) (size:=5) w (madeCells z (n*5)) n hlo hn (by rw[size_madeCells]);have e:(madeCells z (n*5)).toList=(List.range (n*5)).map (rowF 5 z.toList []):=by
  unfold madeCells;simp only[Array.toList_map,Array.toList_range];refine List.map_congr_left λi _=>?_;have:i % 5<z.size:=by omega
  unfold rowF;simp only[hz,List.getElem?_nil,Option.getD_none,Array.getElem?_toList];rw[getElem!_pos z _ this,Array.getElem?_eq_getElem this];rfl
 rw[<-e];exact h
theorem mCell_make(n:Nat)(hn:n<=1000000)(w:World):(Instr.makeSlice 99 (.int .i64 (n:Int)) (.int .i64 (n:Int))).run Tryz.prog w=.ok (.slice (some ⟨w.heap.size,0,none⟩) n n) (w.alloc (.cells (madeCells #[.int .u8 0,.int .i64 0,.int .i32 0,.int .i32 0,.slice none 0 0] (n*5)) 144)):=by
 obtain⟨i,hi,hii⟩:=Option.map_eq_some_iff.1 Tryz.cellJ;simp only[Prod.mk.injEq]at hii;obtain⟨hz0,hz1,hz2⟩:=hii;rw[run_make (P:=Tryz.prog) w 99 144 i _ Tryz.underlying99 hi hz0 .i64 .i64 n n (by omega) (by omega) (by rw[hz2];omega) (by omega),hz1];simp[Value.cells]
def nwC(k:Nat):List (List Value):=((List.range k).map λi=>(newCell i,Value.slice none 0 0)).map mcC
theorem nwC_len(k:Nat):(nwC k).length=k:=by simp[nwC]
theorem nwC_succ(k:Nat):nwC (k+1)=nwC k++[[.int .u8 4,.int .i64 (k:Int),.int .i32 0,.int .i32 0,.slice none 0 0]]:=by simp[nwC,List.range_succ,mcC,newCell]
def nwZ:List Value:=[.int .u8 0,.int .i64 0,.int .i32 0,.int .i32 0,.slice none 0 0]
structure NmS (w wr:World) (Pb ng:Nat) (fuel cells:Int) (k:Nat):Prop where
 low:Below w.heap.size w wr
 m:FBL wr w.heap.size (mL Pb (.slice (some ⟨w.heap.size+1,0,none⟩) ng ng) (.slice none 0 0) (.slice none 0 0) (.slice none 0 0) (.slice none 0 0) (newSt ng fuel cells))
 r:wr.ownsRow w.heap.size 144 5 (.slice (some ⟨w.heap.size+1,0,none⟩) ng ng) ng ((List.range (ng*5)).map (rowF 5 nwZ (nwC k)))
theorem newMachine_any{w:World}{Pb ng gc:Nat}{gp:Option Addr}(fuel cells:Int)(hc:w.cell? ⟨Pb,0,none⟩=some (.slice gp ng gc))(hn:ng<=1000000):
 Calls Tryz.prog 34 #[.pointer (some ⟨Pb,0,none⟩),.int .i64 fuel,.int .i64 cells] w λe w'=>Below w.heap.size w w'∧∃M B,e=.returned (.pointer (some ⟨M,0,none⟩))∧MM w.heap.size w' M Pb (newSt ng fuel cells) B∧∀b∈B,w.heap.size<=b:=by
 have hmk:=mCell_make ng hn;have hca:=λo=>alloc_old w o _ _ _ hc;obtain⟨W0,hW0⟩:∃W0,W0=(w.alloc (.cells #[.pointer (some ⟨Pb,0,none⟩),.slice (some ⟨w.heap.size+1,0,none⟩) ng ng,.slice none 0 0,.int .i64 0,.slice none 0 0,.int .i64 0,.slice none 0 0,.int .i64 0,.int .i64 fuel,.int .i64 0,.int .i64 cells,.int .i64 0,.int .i64 0,.slice none 0 0] 110)).alloc (.cells (madeCells #[.int .u8 0,.int .i64 0,.int .i32 0,.int .i32 0,.slice none 0 0] (ng*5)) 144):=⟨_,rfl⟩;have HS0:Hid (NmS w W0 Pb ng fuel cells 0):=by
  rw[hW0];have hb1:Below w.heap.size w (w.alloc (.cells #[.pointer (some ⟨Pb,0,none⟩),.slice (some ⟨w.heap.size+1,0,none⟩) ng ng,.slice none 0 0,.int .i64 0,.slice none 0 0,.int .i64 0,.slice none 0 0,.int .i64 0,.int .i64 fuel,.int .i64 0,.int .i64 cells,.int .i64 0,.int .i64 0,.slice none 0 0] 110)):=(Below.refl _ _).alloc (Nat.le_refl _) _;have hf:FBL (w.alloc (.cells #[.pointer (some ⟨Pb,0,none⟩),.slice (some ⟨w.heap.size+1,0,none⟩) ng ng,.slice none 0 0,.int .i64 0,.slice none 0 0,.int .i64 0,.slice none 0 0,.int .i64 0,.int .i64 fuel,.int .i64 0,.int .i64 cells,.int .i64 0,.int .i64 0,.slice none 0 0] 110)) w.heap.size (mL Pb (.slice (some ⟨w.heap.size+1,0,none⟩) ng ng) (.slice none 0 0) (.slice none 0 0) (.slice none 0 0) (.slice none 0 0) (newSt ng fuel cells)):=⟨λj hj=>alloc_cell _ _ _ _ _ (by
   have:j<14:=hj;simp only[mL,newSt];rw[List.getElem?_eq_getElem (by simpa using this)];simp),λj=>by simp,by simp⟩
  refine⟨hb1.alloc (by simp) _,hf.of_block (Below.heap_alloc _ _ _ (by simp)) (by simp),?_⟩;have h1:=own_made (w.alloc (.cells #[.pointer (some ⟨Pb,0,none⟩),.slice (some ⟨w.heap.size+1,0,none⟩) ng ng,.slice none 0 0,.int .i64 0,.slice none 0 0,.int .i64 0,.slice none 0 0,.int .i64 0,.int .i64 fuel,.int .i64 0,.int .i64 cells,.int .i64 0,.int .i64 0,.slice none 0 0] 110)) #[.int .u8 0,.int .i64 0,.int .i32 0,.int .i32 0,.slice none 0 0] ng 144 w.heap.size (by simp) rfl (by unfold maxLen;omega);rw[World.size_alloc]at h1;exact h1
 go_enter Tryz.func34,Tryz.ntmps34;go_wp2;rw[<-hW0];clear hW0 hca hmk;go_loopw [30] (λkv wr=>∃k:Nat,k<=ng∧kv=.int .i64 (k:Int)∧Hid (NmS w wr Pb ng fuel cells k)) (λkv _=>ng-(intOf kv).toNat)
 case atStart=>exact⟨0,Nat.zero_le _,rfl,HS0.out⟩
 case round=>
  clear HS0;obtain⟨k,hk,rfl,HS⟩:=hrel;rename World=>wr
  by_cases hlt:k<ng
  ·have h0:(0:Int)<=(k:Int):=by omega
   have h1:(k:Int)<(ng:Int):=by omega
   have e1:=HS.out.m.at 1 rfl;have hr:=HS.out.r;have hx:∀j,j<ng*5->wr.cell? ⟨w.heap.size+1,j,none⟩=some (rowF 5 nwZ (nwC k) j):=λj hj=>by rw[hr.cellAt j hj];simp[hj]
   have c0:=hx (k*5) (by omega);have c1:=hx (k*5+1) (by omega);have c2:=hx (k*5+2) (by omega);have c3:=hx (k*5+3) (by omega);have c4:=hx (k*5+4) (by omega);have f0:=hr.frozenAt (k*5);have f1:=hr.frozenAt (k*5+1);have f2:=hr.frozenAt (k*5+2);have f3:=hr.frozenAt (k*5+3);have f4:=hr.frozenAt (k*5+4);have HN:Hid (NmS w (((((wr.setCell ⟨w.heap.size+1,k*5,none⟩ (.int .u8 4)).setCell ⟨w.heap.size+1,k*5+1,none⟩ (.int .i64 (k:Int))).setCell ⟨w.heap.size+1,k*5+2,none⟩ (.int .i32 0)).setCell ⟨w.heap.size+1,k*5+3,none⟩ (.int .i32 0)).setCell ⟨w.heap.size+1,k*5+4,none⟩ (.slice none 0 0)) Pb ng fuel cells (k+1)):=by
    refine⟨((((HS.out.low.setCell (by simp) _).setCell (by simp) _).setCell (by simp) _).setCell (by simp) _).setCell (by simp) _,((((FB.set HS.out.m (by omega) _).set (by omega) _).set (by omega) _).set (by omega) _).set (by omega) _,?_⟩;rw[nwC_succ];exact own_put5 hr (nwC_len k) hlt _ _ _ _ _
   clear hr hx HS;go_wp2;exact⟨⟨k+1,by omega,by go_num,HN.out⟩,by simp[intOf];omega⟩
  ·obtain rfl:k=ng:=by omega
   have hge:¬(k:Int)<(k:Int):=by omega
   go_wp2;go_ret;have hr:=HS.out.r;have hlen:((List.range k).map λi=>(newCell i,Value.slice none 0 0)).length=k:=by simp
   have hrow:(List.range (k*5)).map (rowF 5 nwZ (nwC k))=((List.range k).map λi=>(newCell i,Value.slice none 0 0)).flatMap mcC:=by
    have:=row5 ((List.range k).map λi=>(newCell i,Value.slice none 0 0)) nwZ;rw[hlen]at this;exact this
   rw[hrow]at hr;have hMM:MM w.heap.size wr w.heap.size Pb (newSt k fuel cells) (mB w.heap.size (.slice (some ⟨w.heap.size+1,0,none⟩) k k) (.slice none 0 0) (.slice none 0 0) (.slice none 0 0)):=by
    refine⟨(List.range k).map λi=>(newCell i,Value.slice none 0 0),[],_,_,_,_,_,⟨HS.out.m,by rw[hlen];exact hr,λx hx=>?_,World.ownsRow_nil _ _ _ _,World.ownsRow_nil _ _ _ _,λx hx=>absurd hx (by simp),Or.inl ⟨rfl,rfl⟩,World.ownsRow_nil _ _ _ _,?_,rfl,?_,Nat.le_refl _⟩,rfl⟩
    ·obtain⟨i,-,rfl⟩:=List.mem_map.1 hx;exact⟨none,0,rfl,λi hi=>absurd hi (by simp[newCell])⟩
    ·rw[List.map_map];rfl
    ·simp[mB,vB,Value.ownBlock]
   exact⟨HS.out.low,w.heap.size,rfl,_,hMM,λb hb=>by
    simp[mB,vB,Value.ownBlock]at hb;omega⟩
end Go.Proofs.YtlccndplhfcknaaGreatDoor
