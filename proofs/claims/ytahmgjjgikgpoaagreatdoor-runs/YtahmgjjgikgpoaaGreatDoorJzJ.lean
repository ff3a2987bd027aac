import Derived.Test.YtahmgjjgikgpoaaGreatDoorJxJ
import Derived.Test.YtahmgjjgikgpoaaGreatDoorSgJ
namespace Go.Proofs.YtahmgjjgikgpoaaGreatDoor
open Go.RowKit Go.Sort
theorem CdAt.ins{lo:Nat}{w:World}{v:Value}{l:List LIns}(h:CdAt lo w v l){k:Nat}(hk:k<l.length):∃b ap an ac,b<lo∧v=.slice (some ⟨b,0,none⟩) l.length l.length∧w.cell? ⟨b,k*3,none⟩=some (.int .i64 l[k].op)∧w.cell? ⟨b,k*3+1,none⟩=some (.int .i64 l[k].a)∧w.cell? ⟨b,k*3+2,none⟩=some (.slice ap an ac):=by
 rcases h with⟨-,rfl⟩|⟨B,L,hb,hv,hL,hf,hA⟩
 ·simp at hk
 ·have hl:L.length=l.length:=by rw[<-hL,List.length_map]
  have hk':k<L.length:=by omega
  have hx:∀j,j<3->w.cell? ⟨B,k*3+j,none⟩=(mIns L[k])[j]?:=λj hj=>by
   have hd:(k*3+j) / 3=k:=by omega
   have hm:(k*3+j) % 3=j:=by omega
   rw[hf.c _ (by omega),rowF_at (by rw[List.length_map,hd];exact hk')];simp only[hd,hm,List.getElem_map];have:j<(mIns L[k]).length:=by simp[mIns];omega
   rw[List.getElem?_eq_getElem this];rfl
  obtain⟨B',-,e2,-⟩:=hA L[k] (List.getElem_mem _);have e:l[k]=L[k].1:=by simp[<-hL]
  refine⟨B,some ⟨B',0,none⟩,L[k].1.alts.length,L[k].1.alts.length,hb,hv,?_,?_,?_⟩
  ·rw[show k*3=k*3+0 by rfl,hx 0 (by omega),e];rfl
  ·rw[hx 1 (by omega),e];rfl
  ·rw[hx 2 (by omega)];exact congrArg some e2
def nextS(st:MSt):MSt:={st with fr:={st.fr with at_:=st.fr.at_+1}}
theorem MM.next{lo:Nat}{w:World}{M Pb:Nat}{st:MSt}{B:List Nat}(h:MM lo w M Pb st B){k:Nat}(hat:st.fr.at_=(k:Int))(hk:k<st.fr.code.length):∃b n c ap an ac,k<n∧w.cell? ⟨M,4,none⟩=some (.slice (some ⟨b,0,none⟩) n c)∧w.cell? ⟨M,5,none⟩=some (.int .i64 (k:Int))∧w.frozen? ⟨M,5,none⟩=false∧((w.setCell ⟨M,5,none⟩ (.int .i64 ((k:Int)+1))).cell? ⟨b,k*3,none⟩=some (.int .i64 st.fr.code[k].op)∧(w.setCell ⟨M,5,none⟩ (.int .i64 ((k:Int)+1))).cell? ⟨b,k*3+1,none⟩=some (.int .i64 st.fr.code[k].a)∧(w.setCell ⟨M,5,none⟩ (.int .i64 ((k:Int)+1))).cell? ⟨b,k*3+2,none⟩=some (.slice ap an ac))∧b∉B∧b<w.heap.size∧MM lo (w.setCell ⟨M,5,none⟩ (.int .i64 ((k:Int)+1))) M Pb (nextS st) B∧AG B w (w.setCell ⟨M,5,none⟩ (.int .i64 ((k:Int)+1))):=by
 obtain⟨cs,ds,cv,sv,kv,dv,tv,h,rfl⟩:=h;obtain⟨b,ap,an,ac,hb,e,c0,c1,c2⟩:=h.cd.ins hk;have hM:=h.ml;have hz:=h.lz;have e4:=h.m.at 4 rfl;have e5:=h.m.at 5 rfl;rw[e]at e4;rw[hat]at e5;have hbl:(w.setCell ⟨M,5,none⟩ (.int .i64 ((k:Int)+1))).heap[b]?=w.heap[b]?:=Below.heap_setCell _ _ _ _ (show b≠M by omega);refine⟨b,_,_,ap,an,ac,hk,e4,e5,h.m.fz 5,⟨cell_same hbl c0,cell_same hbl c1,cell_same hbl c2⟩,λhm=>?_,by omega,⟨cs,ds,cv,sv,kv,dv,tv,?_,rfl⟩,(AG.refl _ _).set (Or.inl (List.mem_cons_self ..)) _⟩
 ·have:=(h.rg b hm).1;omega
 ·have h1:=h.setM (i:=5) (u:=.int .i64 ((k:Int)+1)) (st':=nextS st) (kv':=kv) (by simp[mL,nextS,hat]) (by omega) rfl rfl rfl rfl h.cd;exact h1
end Go.Proofs.YtahmgjjgikgpoaaGreatDoor
