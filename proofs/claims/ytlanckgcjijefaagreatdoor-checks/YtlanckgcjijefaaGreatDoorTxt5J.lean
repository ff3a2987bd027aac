import Derived.Test.YtlanckgcjijefaaGreatDoorSynJ
set_option maxRecDepth 100000
set_option maxHeartbeats 8000000
namespace Go.Proofs.YtlanckgcjijefaaGreatDoor
open Go.RowKit Go.Sort
structure TX (w:World) (T:Nat) (s:ByteArray) (p nest err pl:Nat) (nm iv dv:Value):Prop where
 c0:w.cell? ⟨T,0,none⟩=some (.string s)
 c1:w.cell? ⟨T,1,none⟩=some (.int .i64 (p:Int))
 c2:w.cell? ⟨T,2,none⟩=some (.int .i64 (nest:Int))
 c3:w.cell? ⟨T,3,none⟩=some (.int .i64 (err:Int))
 c4:w.cell? ⟨T,4,none⟩=some (.int .i64 (pl:Int))
 c5:w.cell? ⟨T,5,none⟩=some nm
 c6:w.cell? ⟨T,6,none⟩=some iv
 c7:w.cell? ⟨T,7,none⟩=some dv
 f:∀j,j<8->w.frozen? ⟨T,j,none⟩=false
section
variable {w w':World} {T:Nat} {s:ByteArray} {p nest err pl:Nat} {nm iv dv:Value}
theorem TX.lt(h:TX w T s p nest err pl nm iv dv):T<w.heap.size:=block_lt_of_cell h.c0
theorem TX.of_block(h:TX w T s p nest err pl nm iv dv)(e:w'.heap[T]?=w.heap[T]?):TX w' T s p nest err pl nm iv dv:=by
 have hc:∀j,w'.cell? ⟨T,j,none⟩=w.cell? ⟨T,j,none⟩:=λj=>World.cell?_of_block (a:=⟨T,j,none⟩) e;refine⟨?_,?_,?_,?_,?_,?_,?_,?_,λj hj=>?_⟩
 ·rw[hc];exact h.c0
 ·rw[hc];exact h.c1
 ·rw[hc];exact h.c2
 ·rw[hc];exact h.c3
 ·rw[hc];exact h.c4
 ·rw[hc];exact h.c5
 ·rw[hc];exact h.c6
 ·rw[hc];exact h.c7
 ·rw[World.frozen?_of_block (a:=⟨T,j,none⟩) e];exact h.f j hj
theorem TX.keep(h:TX w T s p nest err pl nm iv dv)(hb:Below w.heap.size w w'):TX w' T s p nest err pl nm iv dv:=h.of_block (hb.block T h.lt)
theorem TX.at(h:TX w T s p nest err pl nm iv dv)(q:Nat):TX (w.setCell ⟨T,1,none⟩ (.int .i64 (q:Int))) T s q nest err pl nm iv dv:=by
 have ho:∀j,j≠1->(w.setCell ⟨T,1,none⟩ (.int .i64 (q:Int))).cell? ⟨T,j,none⟩=w.cell? ⟨T,j,none⟩:=λj hj=>World.cell?_setCell_other _ _ _ _ (off_ne (Ne.symm hj));refine⟨?_,World.cell?_setCell_same _ _ _ h.c1,?_,?_,?_,?_,?_,?_,λj hj=>by rw[World.frozen?_setCell];exact h.f j hj⟩
 ·rw[ho _ (by omega)];exact h.c0
 ·rw[ho _ (by omega)];exact h.c2
 ·rw[ho _ (by omega)];exact h.c3
 ·rw[ho _ (by omega)];exact h.c4
 ·rw[ho _ (by omega)];exact h.c5
 ·rw[ho _ (by omega)];exact h.c6
 ·rw[ho _ (by omega)];exact h.c7
theorem TX.setNest(h:TX w T s p nest err pl nm iv dv)(q:Nat):TX (w.setCell ⟨T,2,none⟩ (.int .i64 (q:Int))) T s p q err pl nm iv dv:=by
 have ho:∀j,j≠2->(w.setCell ⟨T,2,none⟩ (.int .i64 (q:Int))).cell? ⟨T,j,none⟩=w.cell? ⟨T,j,none⟩:=λj hj=>World.cell?_setCell_other _ _ _ _ (off_ne (Ne.symm hj));refine⟨?_,?_,World.cell?_setCell_same _ _ _ h.c2,?_,?_,?_,?_,?_,λj hj=>by rw[World.frozen?_setCell];exact h.f j hj⟩
 ·rw[ho _ (by omega)];exact h.c0
 ·rw[ho _ (by omega)];exact h.c1
 ·rw[ho _ (by omega)];exact h.c3
 ·rw[ho _ (by omega)];exact h.c4
 ·rw[ho _ (by omega)];exact h.c5
 ·rw[ho _ (by omega)];exact h.c6
 ·rw[ho _ (by omega)];exact h.c7
theorem TX.err1(h:TX w T s p nest err pl nm iv dv)(q:Nat):TX (w.setCell ⟨T,3,none⟩ (.int .i64 (q:Int))) T s p nest q pl nm iv dv:=by
 have ho:∀j,j≠3->(w.setCell ⟨T,3,none⟩ (.int .i64 (q:Int))).cell? ⟨T,j,none⟩=w.cell? ⟨T,j,none⟩:=λj hj=>World.cell?_setCell_other _ _ _ _ (off_ne (Ne.symm hj));refine⟨?_,?_,?_,World.cell?_setCell_same _ _ _ h.c3,?_,?_,?_,?_,λj hj=>by rw[World.frozen?_setCell];exact h.f j hj⟩
 ·rw[ho _ (by omega)];exact h.c0
 ·rw[ho _ (by omega)];exact h.c1
 ·rw[ho _ (by omega)];exact h.c2
 ·rw[ho _ (by omega)];exact h.c4
 ·rw[ho _ (by omega)];exact h.c5
 ·rw[ho _ (by omega)];exact h.c6
 ·rw[ho _ (by omega)];exact h.c7
theorem TX.place(h:TX w T s p nest err pl nm iv dv)(q:Nat):TX (w.setCell ⟨T,4,none⟩ (.int .i64 (q:Int))) T s p nest err q nm iv dv:=by
 have ho:∀j,j≠4->(w.setCell ⟨T,4,none⟩ (.int .i64 (q:Int))).cell? ⟨T,j,none⟩=w.cell? ⟨T,j,none⟩:=λj hj=>World.cell?_setCell_other _ _ _ _ (off_ne (Ne.symm hj));refine⟨?_,?_,?_,?_,World.cell?_setCell_same _ _ _ h.c4,?_,?_,?_,λj hj=>by rw[World.frozen?_setCell];exact h.f j hj⟩
 ·rw[ho _ (by omega)];exact h.c0
 ·rw[ho _ (by omega)];exact h.c1
 ·rw[ho _ (by omega)];exact h.c2
 ·rw[ho _ (by omega)];exact h.c3
 ·rw[ho _ (by omega)];exact h.c5
 ·rw[ho _ (by omega)];exact h.c6
 ·rw[ho _ (by omega)];exact h.c7
end
theorem txSkip_any{T:Nat}{s:ByteArray}{p nest err pl:Nat}{nm iv dv:Value}{w:World}(h:TX w T s p nest err pl nm iv dv)(hs:s.size<=2000)(hp:p<=s.size):
 Calls Tryz.prog 44 #[.pointer (some ⟨T,0,none⟩)] w λe w'=>e=.returned (.tuple #[])∧TX w' T s (skp s p) nest err pl nm iv dv∧EF T w w':=by
 have HS:=hid h;clear h;go_enter Tryz.func44,Tryz.ntmps44;go_wp2;go_loopw [] (λwr=>∃q:Nat,q<=s.size∧Hid (TX wr T s q nest err pl nm iv dv∧EF T w wr∧skp s q=skp s p)) (λwr=>s.size-(match wr.cell? ⟨T,1,none⟩ with|some v=>(intOf v).toNat|none=>0))
 case atStart=>exact⟨p,hp,HS.out,EF.refl _ _,rfl⟩
 case round=>
  obtain⟨q,hq,HK⟩:=hrel;rename World=>wr
  obtain⟨d0,d1,d2,d3,d4,d5,d6,d7,hf⟩:=id HK.out.1;have g1:=hf 1 (by omega);clear hf;by_cases hlt:q<s.size
  ·have h0:(0:Int)<=(q:Int):=by omega
   have h1:(q:Int)<(s.size:Int):=by omega
   have hb:s[q].toNat<256:=s[q].toNat_lt;have HG:=hid (λhg=>skp_gap (s:=s) (p:=q) hlt hg);have HN:=hid (λhg=>skp_stop (s:=s) (p:=q) hlt hg);have HAT:Hid (∀w',Below wr.heap.size wr w'->TX (w'.setCell ⟨T,1,none⟩ (.int .i64 ((q:Int)+1))) T s (q+1) nest err pl nm iv dv):=by
    intro w' hb;have h:=(HK.out.1.keep hb).at (q+1);rw[show(((q+1:Nat):Int))=(q:Int)+1 by omega]at h;exact h
   by_cases e1:s[q].toNat=32
   ·have b1:((s[q].toNat:Int)==32)=true:=by rw[beq_iff_eq];omega
    go_wp2;go_quiet (fail);go_wp2;have hbq:=below_drewN (Below.refl wr.heap.size wr) nq;refine⟨⟨q+1,by omega,HAT.out _ hbq,(HK.out.2.1.trans (EF.of_below hbq)).set _,by rw[<-HG.out (by simp[gapN, *])];exact HK.out.2.2⟩,?_⟩;rw[(HAT.out _ hbq).c1,d1];simp[intOf];omega
   ·have n1:((s[q].toNat:Int)==32)=false:=by rw[beq_eq_false_iff_ne];omega
    by_cases e2:s[q].toNat=10
    ·have b2:((s[q].toNat:Int)==10)=true:=by rw[beq_iff_eq];omega
     go_wp2;go_quiet (fail);go_wp2;have hbq:=below_drewN (Below.refl wr.heap.size wr) nq;refine⟨⟨q+1,by omega,HAT.out _ hbq,(HK.out.2.1.trans (EF.of_below hbq)).set _,by rw[<-HG.out (by simp[gapN, *])];exact HK.out.2.2⟩,?_⟩;rw[(HAT.out _ hbq).c1,d1];simp[intOf];omega
    ·have n2:((s[q].toNat:Int)==10)=false:=by rw[beq_eq_false_iff_ne];omega
     go_wp2;go_quiet (fail);go_wp2;have hbq:=below_drewN (Below.refl wr.heap.size wr) nq;refine bE ?_;refine⟨rfl,?_,HK.out.2.1.trans (EF.of_below hbq)⟩;rw[<-HK.out.2.2,HN.out (by simp[gapN,e1,e2])];exact HK.out.1.keep hbq
  ·have hge:¬(q:Int)<(s.size:Int):=by omega
   go_wp2;go_quiet (fail);go_wp2;have hbq:=below_drewN (Below.refl wr.heap.size wr) nq;refine bE ?_;refine⟨rfl,?_,HK.out.2.1.trans (EF.of_below hbq)⟩;rw[<-HK.out.2.2,skp_end (by omega)];exact HK.out.1.keep hbq
theorem TX.ef{E:Nat}{w w':World}{T:Nat}{s:ByteArray}{p nest err pl:Nat}{nm iv dv:Value}(h:TX w T s p nest err pl nm iv dv)(hE:EF E w w')(hne:T≠E):TX w' T s p nest err pl nm iv dv:=h.of_block (hE.block T h.lt hne)
def TakeRes(T:Nat)(s:ByteArray)(p q nest err pl:Nat)(nm iv dv:Value)(w:World)(e:Ending)(w':World):Prop:=
 e=.returned (.tuple #[.string (tokT s p),.int .i64 (tokA s p:Int)])∧TX w' T s q nest err pl nm iv dv∧EF T w w'
theorem txPeek_any{T:Nat}{s:ByteArray}{p nest err pl:Nat}{nm iv dv:Value}{w:World}(h:TX w T s p nest err pl nm iv dv)(hs:s.size<=2000)(hp:p<=s.size):
 Calls Tryz.prog 22 #[.pointer (some ⟨T,0,none⟩)] w λe w'=>TakeRes T s p (skp s p) nest err pl nm iv dv w e w':=by
 have HS:=hid (txSkip_any h hs hp);have hal:=skp_le hp;obtain⟨a,ha⟩:∃a,skp s p=a:=⟨_,rfl⟩;have HA:=hid ha;rw[ha]at HS hal;clear h ha;go_enter Tryz.func22,Tryz.ntmps22;go_wp2_with (first
  |(go_at_call 44;refine HS.out.mono ?_;rintro e w1 ⟨rfl,hT,hE⟩;have HT:=hid hT;have HE:=hid hE;obtain⟨c0,c1,-,-,-,-,-,-,-⟩:=hT;clear hE HS))
 go_loopw [4] (λkv wr=>∃q:Nat,a<=q∧q<=s.size∧kv=.int .i64 (q:Int)∧Hid (wnd s q=wnd s a∧Below w1.heap.size w1 wr)) (λkv _=>s.size-(intOf kv).toNat)
 case atStart=>exact⟨a,Nat.le_refl _,hal,rfl,rfl,Below.refl _ _⟩
 case round=>
  obtain⟨q,haq,hq,rfl,HK⟩:=hrel;rename World=>wr
  obtain⟨d0,d1,-,-,-,-,-,-,-⟩:=HT.out.keep HK.out.2;have h0:(0:Int)<=(q:Int):=by omega
  have ha0:(0:Int)<=(a:Int):=by omega
  have haq':(a:Int)<=(q:Int):=by omega
  have hq':(q:Int)<=(s.size:Int):=by omega
  by_cases hlt:q<s.size
  ·have h1:(q:Int)<(s.size:Int):=by omega
   have hb:s[q].toNat<256:=s[q].toNat_lt;have HST:Hid (gapN s[q].toNat=true∨brkN s[q].toNat=true->wnd s a=q):=λh=>by rw[<-HK.out.1];exact wnd_stop hlt h
   by_cases e32:s[q].toNat=32
   ·have HW:=hid (HST.out (by simp[gapN,brkN,e32]));have k32:((s[q].toNat:Int)==32)=true:=by rw[beq_iff_eq];omega
    have k10:((s[q].toNat:Int)==10)=false:=by rw[beq_eq_false_iff_ne];omega
    have k40:((s[q].toNat:Int)==40)=false:=by rw[beq_eq_false_iff_ne];omega
    have k41:((s[q].toNat:Int)==41)=false:=by rw[beq_eq_false_iff_ne];omega
    have hq1:(q:Int)+1<=(s.size:Int):=by omega
    have HN1:Hid (q=a->nxt s p=a+1):=λhqa=>by unfold nxt tokE;rw[HA.out,if_pos ⟨by rw[HW.out,hqa],by omega⟩]
    have HN2:Hid (¬q=a->nxt s p=q):=λhqa=>by unfold nxt tokE;rw[HA.out,if_neg (λh=>hqa (by rw[<-HW.out];exact h.1))];exact HW.out
    have HBQ:Hid (∀n,Below w1.heap.size w1 (wr.drewN n)):=λn=>HK.out.2.trans ((below_drewN (Below.refl wr.heap.size wr) n).mono HK.out.2.size);go_wp2;all_goals(go_quiet (fail))
    all_goals(try go_wp2)
    all_goals(go_ret2;refine⟨?_,by rw[HA.out];exact HT.out.keep (HBQ.out _),HE.out.trans (EF.of_below (HBQ.out _))⟩;unfold tokT tokA;first|(rw[HN1.out (by omega),HA.out];rfl)|(rw[HN2.out (by omega),HA.out];rfl)|(rw[HN2.out (by intro h;simp_all;done),HA.out];rfl))
   ·have hx32:=e32;by_cases e10:s[q].toNat=10
    ·have HW:=hid (HST.out (by simp[gapN,brkN,e10]));have k32:((s[q].toNat:Int)==32)=false:=by rw[beq_eq_false_iff_ne];omega
     have k10:((s[q].toNat:Int)==10)=true:=by rw[beq_iff_eq];omega
     have k40:((s[q].toNat:Int)==40)=false:=by rw[beq_eq_false_iff_ne];omega
     have k41:((s[q].toNat:Int)==41)=false:=by rw[beq_eq_false_iff_ne];omega
     have hq1:(q:Int)+1<=(s.size:Int):=by omega
     have HN1:Hid (q=a->nxt s p=a+1):=λhqa=>by unfold nxt tokE;rw[HA.out,if_pos ⟨by rw[HW.out,hqa],by omega⟩]
     have HN2:Hid (¬q=a->nxt s p=q):=λhqa=>by unfold nxt tokE;rw[HA.out,if_neg (λh=>hqa (by rw[<-HW.out];exact h.1))];exact HW.out
     have HBQ:Hid (∀n,Below w1.heap.size w1 (wr.drewN n)):=λn=>HK.out.2.trans ((below_drewN (Below.refl wr.heap.size wr) n).mono HK.out.2.size);go_wp2;all_goals(go_quiet (fail))
     all_goals(try go_wp2)
     all_goals(go_ret2;refine⟨?_,by rw[HA.out];exact HT.out.keep (HBQ.out _),HE.out.trans (EF.of_below (HBQ.out _))⟩;unfold tokT tokA;first|(rw[HN1.out (by omega),HA.out];rfl)|(rw[HN2.out (by omega),HA.out];rfl)|(rw[HN2.out (by intro h;simp_all;done),HA.out];rfl))
    ·have hx10:=e10;by_cases e40:s[q].toNat=40
     ·have HW:=hid (HST.out (by simp[gapN,brkN,e40]));have k32:((s[q].toNat:Int)==32)=false:=by rw[beq_eq_false_iff_ne];omega
      have k10:((s[q].toNat:Int)==10)=false:=by rw[beq_eq_false_iff_ne];omega
      have k40:((s[q].toNat:Int)==40)=true:=by rw[beq_iff_eq];omega
      have k41:((s[q].toNat:Int)==41)=false:=by rw[beq_eq_false_iff_ne];omega
      have hq1:(q:Int)+1<=(s.size:Int):=by omega
      have HN1:Hid (q=a->nxt s p=a+1):=λhqa=>by unfold nxt tokE;rw[HA.out,if_pos ⟨by rw[HW.out,hqa],by omega⟩]
      have HN2:Hid (¬q=a->nxt s p=q):=λhqa=>by unfold nxt tokE;rw[HA.out,if_neg (λh=>hqa (by rw[<-HW.out];exact h.1))];exact HW.out
      have HBQ:Hid (∀n,Below w1.heap.size w1 (wr.drewN n)):=λn=>HK.out.2.trans ((below_drewN (Below.refl wr.heap.size wr) n).mono HK.out.2.size);go_wp2;all_goals(go_quiet (fail))
      all_goals(try go_wp2)
      all_goals(go_ret2;refine⟨?_,by rw[HA.out];exact HT.out.keep (HBQ.out _),HE.out.trans (EF.of_below (HBQ.out _))⟩;unfold tokT tokA;first|(rw[HN1.out (by omega),HA.out];rfl)|(rw[HN2.out (by omega),HA.out];rfl)|(rw[HN2.out (by intro h;simp_all;done),HA.out];rfl))
     ·have hx40:=e40;by_cases e41:s[q].toNat=41
      ·have HW:=hid (HST.out (by simp[gapN,brkN,e41]));have k32:((s[q].toNat:Int)==32)=false:=by rw[beq_eq_false_iff_ne];omega
       have k10:((s[q].toNat:Int)==10)=false:=by rw[beq_eq_false_iff_ne];omega
       have k40:((s[q].toNat:Int)==40)=false:=by rw[beq_eq_false_iff_ne];omega
       have k41:((s[q].toNat:Int)==41)=true:=by rw[beq_iff_eq];omega
       have hq1:(q:Int)+1<=(s.size:Int):=by omega
       have HN1:Hid (q=a->nxt s p=a+1):=λhqa=>by unfold nxt tokE;rw[HA.out,if_pos ⟨by rw[HW.out,hqa],by omega⟩]
       have HN2:Hid (¬q=a->nxt s p=q):=λhqa=>by unfold nxt tokE;rw[HA.out,if_neg (λh=>hqa (by rw[<-HW.out];exact h.1))];exact HW.out
       have HBQ:Hid (∀n,Below w1.heap.size w1 (wr.drewN n)):=λn=>HK.out.2.trans ((below_drewN (Below.refl wr.heap.size wr) n).mono HK.out.2.size);go_wp2;all_goals(go_quiet (fail))
       all_goals(try go_wp2)
       all_goals(go_ret2;refine⟨?_,by rw[HA.out];exact HT.out.keep (HBQ.out _),HE.out.trans (EF.of_below (HBQ.out _))⟩;unfold tokT tokA;first|(rw[HN1.out (by omega),HA.out];rfl)|(rw[HN2.out (by omega),HA.out];rfl)|(rw[HN2.out (by intro h;simp_all;done),HA.out];rfl))
      ·have hx41:=e41;have k32:((s[q].toNat:Int)==32)=false:=by rw[beq_eq_false_iff_ne];omega
       have k10:((s[q].toNat:Int)==10)=false:=by rw[beq_eq_false_iff_ne];omega
       have k40:((s[q].toNat:Int)==40)=false:=by rw[beq_eq_false_iff_ne];omega
       have k41:((s[q].toNat:Int)==41)=false:=by rw[beq_eq_false_iff_ne];omega
       have HW2:Hid (wnd s (q+1)=wnd s a):=by show _=_;rw[<-wnd_more hlt (by simp[gapN];omega) (by simp[brkN];omega)];exact HK.out.1
       go_wp2;all_goals first
        |(exfalso;omega)
        |exact⟨⟨q+1,by omega,by omega,by go_num,HW2.out,HK.out.2⟩,by simp[intOf];omega⟩
        |(exfalso;simp[k41]at*;done)
        |(exfalso;simp_all;done)
  ·have HW:Hid (wnd s a=q):=by show _=_;rw[<-HK.out.1];exact wnd_end (by omega)
   have hge:¬(q:Int)<(s.size:Int):=by omega
   have HN0:Hid (nxt s p=q):=by
    show _=_;unfold nxt tokE;rw[HA.out,if_neg (λh=>by have h1:=h.1;have h2:=HW.out;omega)];exact HW.out
   have HBQ:Hid (∀n,Below w1.heap.size w1 (wr.drewN n)):=λn=>HK.out.2.trans ((below_drewN (Below.refl wr.heap.size wr) n).mono HK.out.2.size);go_wp2;all_goals(go_quiet (fail))
   all_goals(try go_wp2)
   all_goals(go_ret2;refine⟨?_,by rw[HA.out];exact HT.out.keep (HBQ.out _),HE.out.trans (EF.of_below (HBQ.out _))⟩;unfold tokT tokA;rw[HN0.out,HA.out])
   all_goals first
    |rfl
    |(have e:q=a:=by omega
      rw[e];simp)
theorem toL_inj{a b:ByteArray}(h:a.toList=b.toList):a=b:=by
 rw[ByteArray.toList_eq,ByteArray.toList_eq]at h;exact Go.WideShapes.bytes_inj h
theorem txTake_any{T:Nat}{s:ByteArray}{p nest err pl:Nat}{nm iv dv:Value}{w:World}(h:TX w T s p nest err pl nm iv dv)(hs:s.size<=2000)(hp:p<=s.size):
 Calls Tryz.prog 21 #[.pointer (some ⟨T,0,none⟩)] w λe w'=>TakeRes T s p (nxt s p) nest err pl nm iv dv w e w':=by
 have HS:=hid (txPeek_any h hs hp);have hn:=nxt_le hp;have hg:=nxt_ge s p;have hz:=tokT_size (s:=s) hp;clear h;go_enter Tryz.func21,Tryz.ntmps21;go_wp2_with (first
  |(go_at_call 22;refine HS.out.mono ?_;rintro e w1 ⟨rfl,hT,hE⟩;have HT:=hid hT;have HE:=hid hE;have f1:=hT.f 1 (by omega);obtain⟨c0,c1,-,-,-,-,-,-,-⟩:=hT;clear hE HS))
 go_ret2
 refine⟨rfl,?_,HE.out.set _⟩;have h:=HT.out.at (nxt s p);have e:((nxt s p:Nat):Int)=(tokA s p:Int)+((nxt s p-tokA s p:Nat):Int):=by omega
 rw[e]at h;exact h
def TellRes(T:Nat)(s:ByteArray)(p nest err pl:Nat)(nm iv dv:Value)(w:World)(e:Ending)(w':World):Prop:=
 e=.returned (.tuple #[])∧TX w' T s p nest err pl nm iv dv∧EF T w w'
theorem txFail_first{T:Nat}{s:ByteArray}{p nest pl c q:Nat}{nm iv dv:Value}{w:World}(h:TX w T s p nest 0 pl nm iv dv):
 Calls Tryz.prog 23 #[.pointer (some ⟨T,0,none⟩),.int .i64 (c:Int),.int .i64 (q:Int)] w λe w'=>TellRes T s p nest c q nm iv dv w e w':=by
 have HS:=hid h;have f3:=h.f 3 (by omega);have f4:=h.f 4 (by omega);obtain⟨c0,c1,c2,c3,c4,-,-,-,-⟩:=h;go_enter Tryz.func23,Tryz.ntmps23;go_wp2;refine bE ?_;exact⟨rfl,(HS.out.err1 c).place q,((EF.refl T w).set _).set _⟩
theorem txFail_later{T:Nat}{s:ByteArray}{p nest err pl:Nat}{c q:Int}{nm iv dv:Value}{w:World}(h:TX w T s p nest err pl nm iv dv)(he:err≠0):
 Calls Tryz.prog 23 #[.pointer (some ⟨T,0,none⟩),.int .i64 c,.int .i64 q] w λe w'=>TellRes T s p nest err pl nm iv dv w e w':=by
 have HS:=hid h;have he1:((err:Int)==0)=false:=by rw[beq_eq_false_iff_ne];omega
 obtain⟨c0,c1,c2,c3,c4,-,-,-,-⟩:=h;go_enter Tryz.func23,Tryz.ntmps23;go_wp2;all_goals first
  |(exfalso;omega)
  |(refine bE ?_
    exact⟨rfl,HS.out,EF.refl T w⟩)
def UnitRes(T:Nat)(s:ByteArray)(r:Pr Unit)(nest pl:Nat)(nm iv dv:Value)(w:World)(w':World):Prop:=
 EF T w w'∧match r with
  |.ok (_,q)=>TX w' T s q nest 0 pl nm iv dv∧q<=s.size
  |.error (c,a)=>∃q,TX w' T s q nest c a nm iv dv∧q<=s.size
theorem txWant_any{T:Nat}{s t:ByteArray}{p nest pl:Nat}{nm iv dv:Value}{w:World}(h:TX w T s p nest 0 pl nm iv dv)(hs:s.size<=2000)(hp:p<=s.size):
 Calls Tryz.prog 19 #[.pointer (some ⟨T,0,none⟩),.string t] w λe w'=>e=.returned (.tuple #[])∧UnitRes T s (pWant s t p) nest pl nm iv dv w w':=by
 have HS:=hid (txTake_any h hs hp);have HN:=hid (nxt_le hp);clear h;have HF:=hid (λw1 (h:TX w1 T s (nxt s p) nest 0 pl nm iv dv)=>txFail_first (c:=2) (q:=tokA s p) h);obtain⟨tt,htt⟩:∃tt,tokT s p=tt:=⟨_,rfl⟩;have HTT:=hid htt;unfold TakeRes at HS;rw[htt]at HS;clear htt;go_enter Tryz.func19,Tryz.ntmps19;go_wp2_with (first
  |(go_at_call 21;refine HS.out.mono ?_;rintro e w1 ⟨rfl,hT,hE⟩;have HT:=hid hT;have HE:=hid hE;clear hT hE HS)
  |(go_at_call 23;refine(HF.out _ HT.out).mono ?_;rintro e w2 ⟨rfl,hT2,hE2⟩;have HT2:=hid hT2;have HE2:=hid hE2;clear hT2 hE2))
 all_goals refine bE ?_
 all_goals refine⟨rfl,?_⟩
 all_goals unfold UnitRes pWant
 all_goals rw[HTT.out]
 ·rename_i hne
  rw[if_neg (by first|exact hne|(intro h;simp[h]at hne))];exact⟨HE.out.trans HE2.out,_,HT2.out,HN.out⟩
 ·rename_i heq
  rw[if_pos (toL_inj (by simpa using heq))];exact⟨HE.out,HT.out,HN.out⟩
def lowN(n:Nat):Bool:=decide (97<=n) && decide (n<=122)
def digN(n:Nat):Bool:=decide (48<=n) && decide (n<=57)
def chk(s:ByteArray)(i:Nat):Bool:=if h:i<s.size then (lowN s[i].toNat||(decide (i≠0) && digN s[i].toNat)) && chk s (i+1) else true
termination_by s.size-i
theorem chk_step{s:ByteArray}{i:Nat}(h:i<s.size):chk s i=((lowN s[i].toNat||(decide (i≠0) && digN s[i].toNat)) && chk s (i+1)):=by rw[chk,dif_pos h]
theorem chk_end{s:ByteArray}{i:Nat}(h:s.size<=i):chk s i=true:=by rw[chk,dif_neg (by omega)]
def resv:List ByteArray:=[⟨#[109,111,100,117,108,101]⟩,⟨#[105,109,112,111,114,116]⟩,⟨#[100,101,102]⟩,⟨#[108,101,116]⟩,⟨#[108,101,116,114,101,99]⟩,⟨#[99,111,110]⟩,⟨#[99,97,115,101]⟩]
def isRes(s:ByteArray)(k:Nat):Bool:=(resv.drop k).any λr=>decide (s=r)
theorem isRes_step(s:ByteArray){k:Nat}(hk:k<7):isRes s k=(decide (s=resv[k]'hk)||isRes s (k+1)):=by
 unfold isRes;rw[List.drop_eq_getElem_cons (show k<resv.length from hk),List.any_cons];rfl
theorem isRes_end(s:ByteArray):isRes s 7=false:=rfl
def wordB(s:ByteArray):Bool:=chk s 0 && !isRes s 0 && decide (0<s.size) && decide (s.size<=10)
theorem word_any(s:ByteArray)(w:World)(hs:s.size<=2000):Calls Tryz.prog 43 #[.string s] w λe w'=>e=.returned (.bool (wordB s))∧Below w.heap.size w w':=by
 have HWD:Hid (wordB s=(chk s 0 && !isRes s 0 && decide (0<s.size) && decide (s.size<=10))):=rfl;go_enter Tryz.func43,Tryz.ntmps43;go_wp2;go_loopw [3] (λiv wr=>∃i:Nat,i<=s.size∧iv=.int .i64 (i:Int)∧wr=w∧Hid (chk s 0=chk s i)) (λiv _=>s.size-(intOf iv).toNat)
 case atStart=>exact⟨0,Nat.zero_le _,rfl,rfl,rfl⟩
 case round=>
  obtain⟨i,hi,rfl,hww,HC⟩:=hrel;replace hww:=hww.symm
  subst hww;by_cases hlt:i<s.size
  ·have h0:(0:Int)<=(i:Int):=by omega
   have h1:(i:Int)<(s.size:Int):=by omega
   have hb:s[i].toNat<256:=s[i].toNat_lt;have HS:=hid (chk_step (s:=s) (i:=i) hlt);by_cases c1:s[i].toNat<97
   ·by_cases c2:i=0
    ·have z0:((i:Int)==0)=true:=by rw[beq_iff_eq];omega
     have f0:¬97<=(s[i].toNat:Int):=by omega
     have f1:(s[i].toNat:Int)<97:=by omega
     have HX:Hid (wordB s=false):=by
      have h:chk s 0=false:=by rw[HC.out,HS.out];simp[lowN,digN];omega
      show _=_;rw[HWD.out,h];rfl
     go_wp2;all_goals first
      |(exfalso;simp_all;done)
      |(exfalso;simp_all;omega)
      |(go_ret
        exact⟨by rw[HX.out];rfl,Below.refl _ _⟩)
    ·have z0:((i:Int)==0)=false:=by rw[beq_eq_false_iff_ne];omega
     by_cases c3:s[i].toNat<48
     ·have f0:¬97<=(s[i].toNat:Int):=by omega
      have f9:¬97<=(s[i].toNat:Int):=by omega
      have f1:(s[i].toNat:Int)<97:=by omega
      have f2:(s[i].toNat:Int)<48:=by omega
      have f3:¬48<=(s[i].toNat:Int):=by omega
      have HX:Hid (wordB s=false):=by
       have h:chk s 0=false:=by rw[HC.out,HS.out];simp[lowN,digN];omega
       show _=_;rw[HWD.out,h];rfl
      go_wp2;all_goals first
       |(exfalso;simp_all;done)
       |(exfalso;simp_all;omega)
       |(go_ret
         exact⟨by rw[HX.out];rfl,Below.refl _ _⟩)
     ·by_cases c4:s[i].toNat<=57
      ·have f8:¬97<=(s[i].toNat:Int):=by omega
       have f0:(s[i].toNat:Int)<97:=by omega
       have f1:¬(s[i].toNat:Int)<48:=by omega
       have f2:48<=(s[i].toNat:Int):=by omega
       have f3:(s[i].toNat:Int)<=57:=by omega
       have f4:¬57<(s[i].toNat:Int):=by omega
       have HX:Hid (chk s 0=chk s (i+1)):=by
        have h:(lowN s[i].toNat||(decide (i≠0) && digN s[i].toNat))=true:=by simp[lowN,digN];omega
        show _=_;rw[HC.out,HS.out,h];rfl
       go_wp2;all_goals first
        |exact⟨⟨i+1,by omega,by go_num,by first|rfl|trivial,HX.out⟩,by simp[intOf];omega⟩
        |(exfalso;simp_all;done)
        |(exfalso;simp_all;omega)
      ·have f8:¬97<=(s[i].toNat:Int):=by omega
       have f0:(s[i].toNat:Int)<97:=by omega
       have f1:¬(s[i].toNat:Int)<48:=by omega
       have f2:48<=(s[i].toNat:Int):=by omega
       have f3:¬(s[i].toNat:Int)<=57:=by omega
       have f4:57<(s[i].toNat:Int):=by omega
       have HX:Hid (wordB s=false):=by
        have h:chk s 0=false:=by rw[HC.out,HS.out];simp[lowN,digN];omega
        show _=_;rw[HWD.out,h];rfl
       go_wp2;all_goals first
        |(exfalso;simp_all;done)
        |(exfalso;simp_all;omega)
        |(go_ret
          exact⟨by rw[HX.out];rfl,Below.refl _ _⟩)
   ·by_cases c5:s[i].toNat<=122
    ·have f8:97<=(s[i].toNat:Int):=by omega
     have f0:(s[i].toNat:Int)<=122:=by omega
     have f1:¬122<(s[i].toNat:Int):=by omega
     have HX:Hid (chk s 0=chk s (i+1)):=by
      have h:(lowN s[i].toNat||(decide (i≠0) && digN s[i].toNat))=true:=by simp[lowN,digN];omega
      show _=_;rw[HC.out,HS.out,h];rfl
     go_wp2;all_goals first
      |exact⟨⟨i+1,by omega,by go_num,by first|rfl|trivial,HX.out⟩,by simp[intOf];omega⟩
      |(exfalso;simp_all;done)
      |(exfalso;simp_all;omega)
    ·have f8:97<=(s[i].toNat:Int):=by omega
     have f0:¬(s[i].toNat:Int)<=122:=by omega
     have f1:122<(s[i].toNat:Int):=by omega
     have f2:¬(s[i].toNat:Int)<48:=by omega
     have f3:48<=(s[i].toNat:Int):=by omega
     have f4:57<(s[i].toNat:Int):=by omega
     have f5:¬(s[i].toNat:Int)<=57:=by omega
     by_cases c2:i=0
     ·have z0:((i:Int)==0)=true:=by rw[beq_iff_eq];omega
      have HX:Hid (wordB s=false):=by
       have h:chk s 0=false:=by rw[HC.out,HS.out];simp[lowN,digN];omega
       show _=_;rw[HWD.out,h];rfl
      go_wp2;all_goals first
       |(exfalso;simp_all;done)
       |(exfalso;simp_all;omega)
       |(go_ret
         exact⟨by rw[HX.out];rfl,Below.refl _ _⟩)
     ·have z0:((i:Int)==0)=false:=by rw[beq_eq_false_iff_ne];omega
      have HX:Hid (wordB s=false):=by
       have h:chk s 0=false:=by rw[HC.out,HS.out];simp[lowN,digN];omega
       show _=_;rw[HWD.out,h];rfl
      go_wp2;all_goals first
       |(exfalso;simp_all;done)
       |(exfalso;simp_all;omega)
       |(go_ret
         exact⟨by rw[HX.out];rfl,Below.refl _ _⟩)
  ·have hge:¬(i:Int)<(s.size:Int):=by omega
   obtain rfl:i=s.size:=by omega
   have HC1:Hid (chk s 0=true):=by show _=_;rw[HC.out];exact chk_end (Nat.le_refl _)
   go_wp2;have HAR:Hid (∀k (hk:k<7),(w.alloc (Obj.cells #[.string ⟨#[109,111,100,117,108,101]⟩,.string ⟨#[105,109,112,111,114,116]⟩,.string ⟨#[100,101,102]⟩,.string ⟨#[108,101,116]⟩,.string ⟨#[108,101,116,114,101,99]⟩,.string ⟨#[99,111,110]⟩,.string ⟨#[99,97,115,101]⟩] 9)).cell? ⟨w.heap.size,k,none⟩=some (.string (resv[k]'hk))):=by
    intro k hk;rcases(show k=0∨k=1∨k=2∨k=3∨k=4∨k=5∨k=6 by omega) with rfl|rfl|rfl|rfl|rfl|rfl|rfl<;>simp[resv]
   have HB:Hid (Below w.heap.size w (w.alloc (Obj.cells #[.string ⟨#[109,111,100,117,108,101]⟩,.string ⟨#[105,109,112,111,114,116]⟩,.string ⟨#[100,101,102]⟩,.string ⟨#[108,101,116]⟩,.string ⟨#[108,101,116,114,101,99]⟩,.string ⟨#[99,111,110]⟩,.string ⟨#[99,97,115,101]⟩] 9))):=(Below.refl _ _).alloc (Nat.le_refl _) _;generalize w.alloc (Obj.cells #[.string ⟨#[109,111,100,117,108,101]⟩,.string ⟨#[105,109,112,111,114,116]⟩,.string ⟨#[100,101,102]⟩,.string ⟨#[108,101,116]⟩,.string ⟨#[108,101,116,114,101,99]⟩,.string ⟨#[99,111,110]⟩,.string ⟨#[99,97,115,101]⟩] 9)=W at*;go_loopw [6] (λkv wr=>∃k:Nat,k<=7∧kv=.int .i64 (k:Int)∧wr=W∧Hid (isRes s 0=isRes s k)) (λkv _=>7-(intOf kv).toNat)
   case atStart=>exact⟨0,by omega,rfl,rfl,rfl⟩
   case round=>
    obtain⟨k,hk,rfl,hww,HI⟩:=hrel;replace hww:=hww.symm
    subst hww;by_cases hlt:k<7
    ·have h0:(0:Int)<=(k:Int):=by omega
     have h1:(k:Int)<7:=by omega
     have c0:=HAR.out k hlt;have HS:=hid (isRes_step s hlt);obtain⟨rk,hrk⟩:∃r,resv[k]'hlt=r:=⟨_,rfl⟩;have HRK:=hid hrk;rw[hrk]at c0 HS;clear hrk;go_wp2
     ·rename_i he
      have e:s=rk:=toL_inj (by simpa using he);go_ret;refine⟨?_,HB.out⟩;have h:isRes s 0=true:=by rw[HI.out,HS.out,e];simp
      rw[HWD.out,h];simp
     ·rename_i he
      have hne:¬s=rk:=λh=>by rw[h]at he;simp at he
      have h:isRes s 0=isRes s (k+1):=by rw[HI.out,HS.out];simp[hne]
      exact⟨⟨k+1,by omega,by go_num,by first|rfl|trivial,h⟩,by simp[intOf];omega⟩
    ·obtain rfl:k=7:=by omega
     have HW2:Hid (wordB s=(decide (0<s.size) && decide (s.size<=10))):=by show _=_;rw[HWD.out,HC1.out,HI.out,isRes_end];rfl
     go_wp2
     ·rename_i he
      go_ret;refine⟨?_,HB.out⟩;rw[HW2.out];simp[he];omega
     ·rename_i he
      go_ret;refine⟨?_,HB.out⟩;rw[HW2.out];simp[he]
def Ans{α:Type}(T:Nat)(s:ByteArray)(r:Pr α)(nest pl:Nat)(nm iv dv:Value)(w':World):Prop:=match r with
 |.ok (_,q)=>TX w' T s q nest 0 pl nm iv dv∧q<=s.size
 |.error (c,a)=>∃q,TX w' T s q nest c a nm iv dv∧q<=s.size
def pName(s:ByteArray)(p:Nat):Pr (ByteArray×Nat):=if wordB (tokT s p)=true then .ok ((tokT s p,tokA s p),nxt s p) else .error (2,tokA s p)
theorem txName_any{T:Nat}{s:ByteArray}{p nest pl:Nat}{nm iv dv:Value}{w:World}(h:TX w T s p nest 0 pl nm iv dv)(hs:s.size<=2000)(hp:p<=s.size):
 Calls Tryz.prog 20 #[.pointer (some ⟨T,0,none⟩)] w λe w'=>e=.returned (.tuple #[.string (tokT s p),.int .i64 (tokA s p:Int)])∧EF T w w'∧Ans T s (pName s p) nest pl nm iv dv w':=by
 have HS:=hid (txTake_any h hs hp);have HN:=hid (nxt_le hp);have HZ:=hid (tokT_size (s:=s) hp);have HF:=hid (λw1 (h:TX w1 T s (nxt s p) nest 0 pl nm iv dv)=>txFail_first (c:=2) (q:=tokA s p) h);have HW:=hid (λw1=>word_any (tokT s p) w1 (by have h1:=HZ.out;have h2:=HN.out;omega));have HP:Hid (pName s p=if wordB (tokT s p)=true then .ok ((tokT s p,tokA s p),nxt s p) else .error (2,tokA s p)):=rfl;obtain⟨tt,htt⟩:∃tt,tokT s p=tt:=⟨_,rfl⟩;unfold TakeRes at HS;rw[htt]at HS HW HP;rw[htt];clear htt h HZ;obtain⟨wb,hwb⟩:∃b,wordB tt=b:=⟨_,rfl⟩;rw[hwb]at HW HP;clear hwb;cases wb
 ·go_enter Tryz.func20,Tryz.ntmps20;go_wp2_with (first
   |(go_at_call 21;refine HS.out.mono ?_;rintro e w1 ⟨rfl,hT,hE⟩;have HT:=hid hT;have HE:=hid hE;clear hT hE HS)
   |(go_at_call 43;refine(HW.out _).mono ?_;rintro e w2 ⟨rfl,hb⟩;have HB:=hid hb;clear hb HW)
   |(go_at_call 23;refine(HF.out _ (HT.out.keep HB.out)).mono ?_;rintro e w3 ⟨rfl,hT2,hE2⟩;have HT2:=hid hT2;have HE2:=hid hE2;clear hT2 hE2))
  go_ret2
  refine⟨rfl,(HE.out.trans (EF.of_below HB.out)).trans HE2.out,?_⟩;rw[HP.out];exact⟨_,HT2.out,HN.out⟩
 ·go_enter Tryz.func20,Tryz.ntmps20;go_wp2_with (first
   |(go_at_call 21;refine HS.out.mono ?_;rintro e w1 ⟨rfl,hT,hE⟩;have HT:=hid hT;have HE:=hid hE;clear hT hE HS)
   |(go_at_call 43;refine(HW.out _).mono ?_;rintro e w2 ⟨rfl,hb⟩;have HB:=hid hb;clear hb HW))
  go_ret2
  refine⟨rfl,HE.out.trans (EF.of_below HB.out),?_⟩;rw[HP.out];exact⟨HT.out.keep HB.out,HN.out⟩
def dgs(d:ByteArray)(i n:Nat):Option Nat:=if h:i<d.size then (if digN d[i].toNat=true then dgs d (i+1) (10*n+(d[i].toNat-48)) else none) else some n
termination_by d.size-i
theorem dgs_step{d:ByteArray}{i n:Nat}(h:i<d.size)(hd:digN d[i].toNat=true):dgs d i n=dgs d (i+1) (10*n+(d[i].toNat-48)):=by rw[dgs,dif_pos h,if_pos hd]
theorem dgs_bad{d:ByteArray}{i n:Nat}(h:i<d.size)(hd:digN d[i].toNat=false):dgs d i n=none:=by rw[dgs,dif_pos h,if_neg (by simp[hd])]
theorem dgs_end{d:ByteArray}{i n:Nat}(h:d.size<=i):dgs d i n=some n:=by rw[dgs,dif_neg (by omega)]
def negB(s:ByteArray):Bool:=match s[0]? with|some b=>decide (b.toNat=45)|none=>false
def zeroB(d:ByteArray):Bool:=match d[0]? with|some b=>decide (b.toNat=48)|none=>false
def absP(s:ByteArray):ByteArray:=if negB s=true then s.extract 1 s.size else s
def wholeP(s:ByteArray):Option Int:=
 if (absP s).size=0∨(zeroB (absP s)=true∧¬s=⟨#[48]⟩)∨19<(absP s).size then none else
  match dgs (absP s) 0 0 with
  |none=>none
  |some n=>if negB s=true then (if n<=9223372036854775808 then some (-(n:Int)) else none) else (if n<9223372036854775808 then some (n:Int) else none)
def WhRes(r:Option Int)(w:World)(e:Ending)(w':World):Prop:=Below w.heap.size w w'∧∃n:Int,e=.returned (.tuple #[.int .i64 n,.bool r.isSome])∧∀v,r=some v->n=v
theorem negv(n:Nat)(h:n<=9223372036854775808):wrap64 (wrap64 (-wrap64 (IntKind.u64.wrap ((n:Int)-1)))-1)=-(n:Int):=by
 by_cases h0:n=0
 ·subst h0;kernel_rfl
 ·have e:IntKind.u64.wrap ((n:Int)-1)=((n-1:Nat):Int):=by rw[show((n:Int)-1)=((n-1:Nat):Int) by omega];exact wrapU64 _ (by omega)
  rw[e];unfold wrap64;omega
theorem whole_pos(s:ByteArray)(w:World)(hlt:0<s.size)(hn:negB s=false)(hz:¬s[0].toNat=48)(h19:s.size<=19):Calls Tryz.prog 45 #[.string s] w λe w'=>WhRes (wholeP s) w e w':=by
 have HNG:=hid hn;have HAB:Hid (absP s=s):=by show _=_;unfold absP;rw[hn];rfl
 have h0:∀h:0<s.size,s[0]?=some (s[0]'h):=λh=>getElem?_pos s 0 h;have HNO:Hid (¬(s.size=0∨(zeroB s=true∧¬s=⟨#[48]⟩)∨19<s.size)):=by
  intro h;have hzb:zeroB s=false:=by unfold zeroB;rw[h0 hlt];simp[hz]
  rcases h with h|h|h
  ·omega
  ·rw[hzb]at h;cases h.1
  ·omega
 have hne:s[0].toNat≠45:=by
  have h:=hn;unfold negB at h;rw[h0 hlt]at h;simpa using h
 have n45:((s[0].toNat:Int)==45)=false:=by rw[beq_eq_false_iff_ne];omega
 have n48:((s[0].toNat:Int)==48)=false:=by rw[beq_eq_false_iff_ne];omega
 have z1:(0:Int)<(s.size:Int):=by omega
 have z19:¬19<(s.size:Int):=by omega
 have z2:(s.size:Int)<=19:=by omega
 have hnil:¬s.toList=[]:=λh=>by
  rw[ByteArray.toList_eq]at h;have h1:s.data.toList.length=s.size:=by simp
  rw[h]at h1;simp at h1;omega
 have hnil2:s.toList.isEmpty=false:=by cases hx:s.toList with|nil=>exact absurd hx hnil|cons a b=>rfl
 clear h0 hn;go_enter Tryz.func45,Tryz.ntmps45;go_wp2;go_loopw [6,7] (λnv iv wr=>∃(i n:Nat),i<=s.size∧iv=.int .i64 (i:Int)∧nv=.int .u64 (n:Int)∧n<10 ^ i∧wr=w∧Hid (dgs s 0 0=dgs s i n)) (λ_ iv _=>s.size-(intOf iv).toNat)
 case atStart=>exact⟨0,0,Nat.zero_le _,rfl,rfl,by decide,rfl,rfl⟩
 case round=>
  obtain⟨i,n,hi,rfl,rfl,hni,hww,HC⟩:=hrel;replace hww:=hww.symm
  subst hww;by_cases hlt:i<s.size
  ·have g0:(0:Int)<=(i:Int):=by omega
   have g1:(i:Int)<(s.size:Int):=by omega
   have hb:s[i].toNat<256:=s[i].toNat_lt;by_cases hd:digN s[i].toNat=true
   ·have hd2:48<=s[i].toNat∧s[i].toNat<=57:=by simpa[digN]using hd
    have k1:¬(s[i].toNat:Int)<48:=by omega
    have k2:¬57<(s[i].toNat:Int):=by omega
    have k3:(s[i].toNat:Int)<=57:=by omega
    have k4:48<=(s[i].toNat:Int):=by omega
    have hp18:10 ^ i<=1000000000000000000:=Nat.le_trans (Nat.pow_le_pow_right (by omega) (show i<=18 by omega)) (by decide);have hpn:10*n+(s[i].toNat-48)<10 ^ (i+1):=by rw[Nat.pow_succ];omega
    have HS:=hid (dgs_step (d:=s) (i:=i) (n:=n) hlt hd);go_wp2;all_goals first
     |exact⟨⟨i+1,10*n+(s[i].toNat-48),by omega,by go_num,by congr 1;omega,hpn,by first|rfl|trivial,HC.out.trans HS.out⟩,by simp[intOf];omega⟩
     |(exfalso;omega)
   ·have hd2:s[i].toNat<48∨57<s[i].toNat:=by simp[digN]at hd;omega
    have HX:Hid (wholeP s=none):=by
     have h:dgs s 0 0=none:=by rw[HC.out];exact dgs_bad hlt (by simpa using hd)
     show _=_;unfold wholeP;rw[HAB.out,if_neg HNO.out,h]
    go_wp2;all_goals first
     |(exfalso;omega)
     |(go_ret2;exact⟨Below.refl _ _,0,by rw[HX.out];rfl,λv hv=>by rw[HX.out]at hv;cases hv⟩)
  ·obtain rfl:i=s.size:=by omega
   have hge:¬((s.size:Nat):Int)<(s.size:Int):=by omega
   have HX:Hid (dgs s 0 0=some n):=by show _=_;rw[HC.out];exact dgs_end (Nat.le_refl _)
   have HY:Hid (wholeP s=if n<9223372036854775808 then some (n:Int) else none):=by
    show _=_;unfold wholeP;rw[HAB.out,if_neg HNO.out,HX.out,HNG.out];rfl
   have hp19:10 ^ s.size<=10000000000000000000:=Nat.le_trans (Nat.pow_le_pow_right (by omega) (show s.size<=19 by omega)) (by decide);by_cases hsm:n<9223372036854775808
   ·have k1:(n:Int)<9223372036854775808:=by omega
    have HZ:Hid (wholeP s=some (n:Int)):=by show _=_;rw[HY.out,if_pos hsm]
    go_wp2;all_goals first
     |(go_ret2;exact⟨Below.refl _ _,n,by rw[HZ.out];simp,λv hv=>by rw[HZ.out]at hv;cases hv;rfl⟩)
   ·have k1:¬(n:Int)<9223372036854775808:=by omega
    have HZ:Hid (wholeP s=none):=by show _=_;rw[HY.out,if_neg hsm]
    go_wp2;all_goals first
     |(go_ret2;refine⟨Below.refl _ _,_,by rw[HZ.out];simp;rfl,λv hv=>by rw[HZ.out]at hv;cases hv⟩)
theorem whole_zero(s:ByteArray)(w:World)(hs0:s=⟨#[48]⟩):Calls Tryz.prog 45 #[.string s] w λe w'=>WhRes (wholeP s) w e w':=by
 have HS0:=hid hs0;have h1:s.size=1:=by rw[hs0];rfl
 have hlt:0<s.size:=by omega
 have hz:s[0].toNat=48:=by subst hs0;rfl
 have hn:negB s=false:=by rw[hs0];rfl
 have HNG:=hid hn;have HAB:Hid (absP s=s):=by show _=_;unfold absP;rw[hn];rfl
 have HNO:Hid (¬(s.size=0∨(zeroB s=true∧¬s=⟨#[48]⟩)∨19<s.size)):=by
  intro h;rcases h with h|h|h
  ·omega
  ·exact h.2 HS0.out
  ·omega
 have n45:((s[0].toNat:Int)==45)=false:=by rw[beq_eq_false_iff_ne];omega
 have n48:((s[0].toNat:Int)==48)=true:=by rw[beq_iff_eq];omega
 have z1:(0:Int)<(s.size:Int):=by omega
 have z19:¬19<(s.size:Int):=by omega
 have z2:(s.size:Int)<=19:=by omega
 have htl:s.toList=[48]:=by rw[hs0,ByteArray.toList_eq]
 clear hn hs0 h1;go_enter Tryz.func45,Tryz.ntmps45;go_wp2;go_loopw [6,7] (λnv iv wr=>∃(i n:Nat),i<=s.size∧iv=.int .i64 (i:Int)∧nv=.int .u64 (n:Int)∧n<10 ^ i∧wr=w∧Hid (dgs s 0 0=dgs s i n)) (λ_ iv _=>s.size-(intOf iv).toNat)
 case atStart=>exact⟨0,0,Nat.zero_le _,rfl,rfl,by decide,rfl,rfl⟩
 case round=>
  obtain⟨i,n,hi,rfl,rfl,hni,hww,HC⟩:=hrel;replace hww:=hww.symm
  subst hww;by_cases hlt:i<s.size
  ·have g0:(0:Int)<=(i:Int):=by omega
   have g1:(i:Int)<(s.size:Int):=by omega
   have hb:s[i].toNat<256:=s[i].toNat_lt;by_cases hd:digN s[i].toNat=true
   ·have hd2:48<=s[i].toNat∧s[i].toNat<=57:=by simpa[digN]using hd
    have k1:¬(s[i].toNat:Int)<48:=by omega
    have k2:¬57<(s[i].toNat:Int):=by omega
    have k3:(s[i].toNat:Int)<=57:=by omega
    have k4:48<=(s[i].toNat:Int):=by omega
    have hp18:10 ^ i<=1000000000000000000:=Nat.le_trans (Nat.pow_le_pow_right (by omega) (show i<=18 by omega)) (by decide);have hpn:10*n+(s[i].toNat-48)<10 ^ (i+1):=by rw[Nat.pow_succ];omega
    have HS:=hid (dgs_step (d:=s) (i:=i) (n:=n) hlt hd);go_wp2;all_goals first
     |exact⟨⟨i+1,10*n+(s[i].toNat-48),by omega,by go_num,by congr 1;omega,hpn,by first|rfl|trivial,HC.out.trans HS.out⟩,by simp[intOf];omega⟩
     |(exfalso;omega)
   ·have hd2:s[i].toNat<48∨57<s[i].toNat:=by simp[digN]at hd;omega
    have HX:Hid (wholeP s=none):=by
     have h:dgs s 0 0=none:=by rw[HC.out];exact dgs_bad hlt (by simpa using hd)
     show _=_;unfold wholeP;rw[HAB.out,if_neg HNO.out,h]
    go_wp2;all_goals first
     |(exfalso;omega)
     |(go_ret2;exact⟨Below.refl _ _,0,by rw[HX.out];rfl,λv hv=>by rw[HX.out]at hv;cases hv⟩)
  ·obtain rfl:i=s.size:=by omega
   have hge:¬((s.size:Nat):Int)<(s.size:Int):=by omega
   have HX:Hid (dgs s 0 0=some n):=by show _=_;rw[HC.out];exact dgs_end (Nat.le_refl _)
   have HY:Hid (wholeP s=if n<9223372036854775808 then some (n:Int) else none):=by
    show _=_;unfold wholeP;rw[HAB.out,if_neg HNO.out,HX.out,HNG.out];rfl
   have hp19:10 ^ s.size<=10000000000000000000:=Nat.le_trans (Nat.pow_le_pow_right (by omega) (show s.size<=19 by omega)) (by decide);by_cases hsm:n<9223372036854775808
   ·have k1:(n:Int)<9223372036854775808:=by omega
    have HZ:Hid (wholeP s=some (n:Int)):=by show _=_;rw[HY.out,if_pos hsm]
    go_wp2;all_goals first
     |(go_ret2;exact⟨Below.refl _ _,n,by rw[HZ.out];simp,λv hv=>by rw[HZ.out]at hv;cases hv;rfl⟩)
   ·have k1:¬(n:Int)<9223372036854775808:=by omega
    have HZ:Hid (wholeP s=none):=by show _=_;rw[HY.out,if_neg hsm]
    go_wp2;all_goals first
     |(go_ret2;refine⟨Below.refl _ _,_,by rw[HZ.out];simp;rfl,λv hv=>by rw[HZ.out]at hv;cases hv⟩)
theorem whole_neg(s D:ByteArray)(w:World)(hs:s.size<=2000)(hn:negB s=true)(hD:s.extract 1 s.size=D)(hlD:0<D.size)(hz:¬D[0].toNat=48)(h19:D.size<=19):Calls Tryz.prog 45 #[.string s] w λe w'=>WhRes (wholeP s) w e w':=by
 have HNG:=hid hn;have HAB:Hid (absP s=D):=by show _=_;unfold absP;rw[hn,<-hD];rfl
 have hlt:1<s.size:=by rw[<-hD,ByteArray.size_extract]at hlD;omega
 have hD2:D.size=s.size-1:=by rw[<-hD,ByteArray.size_extract];omega
 have hsz:(s.extract 1 s.size).size=D.size:=by rw[hD]
 have HNO:Hid (¬(D.size=0∨(zeroB D=true∧¬s=⟨#[48]⟩)∨19<D.size)):=by
  intro h;have hzb:zeroB D=false:=by unfold zeroB;rw[getElem?_pos D 0 hlD];simp[hz]
  rcases h with h|h|h
  ·omega
  ·rw[hzb]at h;cases h.1
  ·omega
 have hne:s[0].toNat=45:=by
  have h:=hn;unfold negB at h;rw[getElem?_pos s 0 (by omega)]at h;simpa using h
 have n45:((s[0].toNat:Int)==45)=true:=by rw[beq_iff_eq];omega
 have n48:((D[0].toNat:Int)==48)=false:=by rw[beq_eq_false_iff_ne];omega
 have z1:(0:Int)<(s.size:Int):=by omega
 have z3:(1:Int)<=(s.size:Int):=by omega
 have z19:¬19<(D.size:Int):=by omega
 have z2:(D.size:Int)<=19:=by omega
 have z4:(0:Int)<(D.size:Int):=by omega
 have hnil:¬D.toList=[]:=λh=>by
  rw[ByteArray.toList_eq]at h;have h1:D.data.toList.length=D.size:=by simp
  rw[h]at h1;simp at h1;omega
 have hnil2:D.toList.isEmpty=false:=by cases hx:D.toList with|nil=>exact absurd hx hnil|cons a b=>rfl
 clear hn hsz hD2;go_enter Tryz.func45,Tryz.ntmps45;go_wp2;go_loopw [6,7] (λnv iv wr=>∃(i n:Nat),i<=D.size∧iv=.int .i64 (i:Int)∧nv=.int .u64 (n:Int)∧n<10 ^ i∧wr=w∧Hid (dgs D 0 0=dgs D i n)) (λ_ iv _=>D.size-(intOf iv).toNat)
 case atStart=>exact⟨0,0,Nat.zero_le _,rfl,rfl,by decide,rfl,rfl⟩
 case round=>
  obtain⟨i,n,hi,rfl,rfl,hni,hww,HC⟩:=hrel;replace hww:=hww.symm
  subst hww;by_cases hlt:i<D.size
  ·have g0:(0:Int)<=(i:Int):=by omega
   have g1:(i:Int)<(D.size:Int):=by omega
   have hb:D[i].toNat<256:=D[i].toNat_lt;by_cases hd:digN D[i].toNat=true
   ·have hd2:48<=D[i].toNat∧D[i].toNat<=57:=by simpa[digN]using hd
    have k1:¬(D[i].toNat:Int)<48:=by omega
    have k2:¬57<(D[i].toNat:Int):=by omega
    have k3:(D[i].toNat:Int)<=57:=by omega
    have k4:48<=(D[i].toNat:Int):=by omega
    have hp18:10 ^ i<=1000000000000000000:=Nat.le_trans (Nat.pow_le_pow_right (by omega) (show i<=18 by omega)) (by decide);have hpn:10*n+(D[i].toNat-48)<10 ^ (i+1):=by rw[Nat.pow_succ];omega
    have HS:=hid (dgs_step (d:=D) (i:=i) (n:=n) hlt hd);go_wp2;all_goals first
     |exact⟨⟨i+1,10*n+(D[i].toNat-48),by omega,by go_num,by congr 1;omega,hpn,by first|rfl|trivial,HC.out.trans HS.out⟩,by simp[intOf];omega⟩
     |(exfalso;omega)
   ·have hd2:D[i].toNat<48∨57<D[i].toNat:=by simp[digN]at hd;omega
    have HX:Hid (wholeP s=none):=by
     have h:dgs D 0 0=none:=by rw[HC.out];exact dgs_bad hlt (by simpa using hd)
     show _=_;unfold wholeP;rw[HAB.out,if_neg HNO.out,h]
    go_wp2;all_goals first
     |(exfalso;omega)
     |(go_ret2;exact⟨Below.refl _ _,0,by rw[HX.out];rfl,λv hv=>by rw[HX.out]at hv;cases hv⟩)
  ·obtain rfl:i=D.size:=by omega
   have hge:¬((D.size:Nat):Int)<(D.size:Int):=by omega
   have HX:Hid (dgs D 0 0=some n):=by show _=_;rw[HC.out];exact dgs_end (Nat.le_refl _)
   have HY:Hid (wholeP s=if n<=9223372036854775808 then some (-(n:Int)) else none):=by
    show _=_;unfold wholeP;rw[HAB.out,if_neg HNO.out,HX.out,HNG.out];rfl
   have hp19:10 ^ D.size<=10000000000000000000:=Nat.le_trans (Nat.pow_le_pow_right (by omega) (show D.size<=19 by omega)) (by decide);by_cases hsm:n<=9223372036854775808
   ·have k1:(n:Int)<=9223372036854775808:=by omega
    have k2:¬9223372036854775808<(n:Int):=by omega
    have HZ:Hid (wholeP s=some (-(n:Int))):=by show _=_;rw[HY.out,if_pos hsm]
    go_wp2;go_ret2
    exact⟨Below.refl _ _,_,by rw[HZ.out];rfl,λv hv=>by rw[HZ.out]at hv;cases hv;exact negv n hsm⟩
   ·have k1:¬(n:Int)<=9223372036854775808:=by omega
    have k2:9223372036854775808<(n:Int):=by omega
    have HZ:Hid (wholeP s=none):=by show _=_;rw[HY.out,if_neg hsm]
    go_wp2;all_goals first
     |(go_ret2;refine⟨Below.refl _ _,_,by rw[HZ.out];simp;rfl,λv hv=>by rw[HZ.out]at hv;cases hv⟩)
theorem whole_none(s:ByteArray)(h:(absP s).size=0∨(zeroB (absP s)=true∧¬s=⟨#[48]⟩)∨19<(absP s).size):wholeP s=none:=by unfold wholeP;rw[if_pos h]
theorem whole_badPos(s:ByteArray)(w:World)(hn:negB s=false)(hb:s.size=0∨(zeroB s=true∧¬s=⟨#[48]⟩)∨19<s.size):Calls Tryz.prog 45 #[.string s] w λe w'=>WhRes (wholeP s) w e w':=by
 have HAB:Hid (absP s=s):=by show _=_;unfold absP;rw[hn];rfl
 have HX:Hid (wholeP s=none):=whole_none s (by rw[HAB.out];exact hb);by_cases h0:s.size=0
 ·have hse:s=⟨#[]⟩:=by
   apply ByteArray.ext;apply Array.eq_empty_of_size_eq_zero;exact h0
  subst hse;clear hb hn;go_enter Tryz.func45,Tryz.ntmps45;go_wp2;go_ret2
  exact⟨Below.refl _ _,0,by rw[HX.out];rfl,λv hv=>by rw[HX.out]at hv;cases hv⟩
 ·have hlt:0<s.size:=by omega
  have hne:s[0].toNat≠45:=by
   have h:=hn;unfold negB at h;rw[getElem?_pos s 0 hlt]at h;simpa using h
  have n45:((s[0].toNat:Int)==45)=false:=by rw[beq_eq_false_iff_ne];omega
  have z1:(0:Int)<(s.size:Int):=by omega
  have HB:Hid ((s[0].toNat=48∧¬s.toList=[48])∨19<s.size):=by
   rcases hb with h|h|h
   ·omega
   ·left
    refine⟨?_,λh2=>h.2 (toL_inj (by rw[h2,ByteArray.toList_eq]))⟩;have h3:=h.1;unfold zeroB at h3;rw[getElem?_pos s 0 hlt]at h3;simpa using h3
   ·exact Or.inr h
  clear hb hn;go_enter Tryz.func45,Tryz.ntmps45;go_wp2;all_goals first
   |(go_ret2;exact⟨Below.refl _ _,0,by rw[HX.out];rfl,λv hv=>by rw[HX.out]at hv;cases hv⟩)
   |(exfalso;have h:=HB.out;simp_all;done)
   |(exfalso;have h:=HB.out;simp_all;omega)
theorem whole_badNeg(s D:ByteArray)(w:World)(hs:s.size<=2000)(hn:negB s=true)(hD:s.extract 1 s.size=D)(hb:D.size=0∨zeroB D=true∨19<D.size):Calls Tryz.prog 45 #[.string s] w λe w'=>WhRes (wholeP s) w e w':=by
 have HAB:Hid (absP s=D):=by show _=_;unfold absP;rw[hn,<-hD];rfl
 have hlt:0<s.size:=by
  rcases Nat.eq_zero_or_pos s.size with h|h
  ·have h1:=hn;unfold negB at h1;rw[getElem?_neg s 0 (by omega)]at h1;cases h1
  ·exact h
 have hne:s[0].toNat=45:=by
  have h:=hn;unfold negB at h;rw[getElem?_pos s 0 hlt]at h;simpa using h
 have hs48:¬s=⟨#[48]⟩:=λh=>by
  have h2:s[0].toNat=48:=by subst h;rfl
  omega
 have HX:Hid (wholeP s=none):=whole_none s (by
  rw[HAB.out];rcases hb with h|h|h
  ·exact Or.inl h
  ·exact Or.inr (Or.inl ⟨h,hs48⟩)
  ·exact Or.inr (Or.inr h))
 have n45:((s[0].toNat:Int)==45)=true:=by rw[beq_iff_eq];omega
 have z1:(0:Int)<(s.size:Int):=by omega
 have z3:(1:Int)<=(s.size:Int):=by omega
 have hs48b:¬s.toList=[48]:=λh=>hs48 (toL_inj (by rw[h,ByteArray.toList_eq]));by_cases h0:D.size=0
 ·have hse:D=⟨#[]⟩:=by
   apply ByteArray.ext;apply Array.eq_empty_of_size_eq_zero;exact h0
  subst hse;clear hb hn hs48;go_enter Tryz.func45,Tryz.ntmps45;go_wp2;all_goals first
   |(go_ret2;exact⟨Below.refl _ _,0,by rw[HX.out];rfl,λv hv=>by rw[HX.out]at hv;cases hv⟩)
   |(exfalso;simp_all;done)
 ·have hlD:0<D.size:=by omega
  have z4:(0:Int)<(D.size:Int):=by omega
  have HB:Hid (D[0].toNat=48∨19<D.size):=by
   rcases hb with h|h|h
   ·omega
   ·left
    unfold zeroB at h;rw[getElem?_pos D 0 hlD]at h;simpa using h
   ·exact Or.inr h
  clear hb hn hs48;go_enter Tryz.func45,Tryz.ntmps45;go_wp2;all_goals first
   |(go_ret2;exact⟨Below.refl _ _,0,by rw[HX.out];rfl,λv hv=>by rw[HX.out]at hv;cases hv⟩)
   |(exfalso;have h:=HB.out;simp_all;done)
   |(exfalso;have h:=HB.out;simp_all;omega)
theorem whole_any(s:ByteArray)(w:World)(hs:s.size<=2000):Calls Tryz.prog 45 #[.string s] w λe w'=>WhRes (wholeP s) w e w':=by
 have hz:∀(d:ByteArray) (h:0<d.size),(zeroB d=true↔d[0].toNat=48):=λd h=>by unfold zeroB;rw[getElem?_pos d 0 h];simp
 cases hn:negB s
 ·by_cases hb:s.size=0∨(zeroB s=true∧¬s=⟨#[48]⟩)∨19<s.size
  ·exact whole_badPos s w hn hb
  ·have hlt:0<s.size:=by omega
   by_cases h48:s=⟨#[48]⟩
   ·exact whole_zero s w h48
   ·exact whole_pos s w hlt hn (λh=>hb (Or.inr (Or.inl ⟨(hz s hlt).2 h,h48⟩))) (by omega)
 ·by_cases hb:(s.extract 1 s.size).size=0∨zeroB (s.extract 1 s.size)=true∨19<(s.extract 1 s.size).size
  ·exact whole_badNeg s _ w hs hn rfl hb
  ·have hlt:0<(s.extract 1 s.size).size:=by omega
   exact whole_neg s _ w hs hn rfl hlt (λh=>hb (Or.inr (Or.inl ((hz _ hlt).2 h)))) (by omega)
def pTag(s:ByteArray)(most:Nat)(p:Nat):Pr (Nat×Nat):=match wholeP (tokT s p) with
 |some v=>if 0<=v∧v<=(most:Int) then .ok ((v.toNat,tokA s p),nxt s p) else .error (2,tokA s p)
 |none=>.error (2,tokA s p)
theorem txTag_any{T:Nat}{s:ByteArray}{p nest pl most:Nat}{nm iv dv:Value}{w:World}(h:TX w T s p nest 0 pl nm iv dv)(hs:s.size<=2000)(hp:p<=s.size):
 Calls Tryz.prog 25 #[.pointer (some ⟨T,0,none⟩),.int .i64 (most:Int)] w λe w'=>EF T w w'∧Ans T s (pTag s most p) nest pl nm iv dv w'∧∃n:Int,e=.returned (.tuple #[.int .i64 n,.int .i64 (tokA s p:Int)])∧∀x q,pTag s most p=.ok (x,q)->n=(x.1:Int)∧x.1<=most:=by
 have HS:=hid (txTake_any h hs hp);have HN:=hid (nxt_le hp);have HZ:=hid (tokT_size (s:=s) hp);have HF:=hid (λw1 (h:TX w1 T s (nxt s p) nest 0 pl nm iv dv)=>txFail_first (c:=2) (q:=tokA s p) h);have HW:=hid (λw1=>whole_any (tokT s p) w1 (by have h1:=HZ.out;have h2:=HN.out;omega));have HP:Hid (pTag s most p=match wholeP (tokT s p) with
  |some v=>if 0<=v∧v<=(most:Int) then .ok ((v.toNat,tokA s p),nxt s p) else .error (2,tokA s p)
  |none=>.error (2,tokA s p)):=rfl
 obtain⟨tt,htt⟩:∃tt,tokT s p=tt:=⟨_,rfl⟩;unfold TakeRes at HS;rw[htt]at HS HW HP;clear htt h HZ;unfold WhRes at HW;obtain⟨r,hr⟩:∃r,wholeP tt=r:=⟨_,rfl⟩;rw[hr]at HW HP;clear hr;cases r with
 |none=>
  have HE0:Hid (pTag s most p=.error (2,tokA s p)):=HP.out;clear HP;go_enter Tryz.func25,Tryz.ntmps25;go_wp2_with (first
   |(go_at_call 21;refine HS.out.mono ?_;rintro e w1 ⟨rfl,hT,hE⟩;have HT:=hid hT;have HE:=hid hE;clear hT hE HS)
   |(go_at_call 45;refine(HW.out _).mono ?_;rintro e w2 ⟨hb,n,rfl,-⟩;have HB:=hid hb;clear hb HW)
   |(go_at_call 23;refine(HF.out _ (HT.out.keep HB.out)).mono ?_;rintro e w3 ⟨rfl,hT2,hE2⟩;have HT2:=hid hT2;have HE2:=hid hE2;clear hT2 hE2))
  go_ret2
  refine⟨(HE.out.trans (EF.of_below HB.out)).trans HE2.out,by rw[HE0.out];exact⟨_,HT2.out,HN.out⟩,n,rfl,λx q hx=>by rw[HE0.out]at hx;cases hx⟩
 |some v=>
  by_cases hv:0<=v∧v<=(most:Int)
  ·have HE0:Hid (pTag s most p=.ok ((v.toNat,tokA s p),nxt s p)):=by show _=_;rw[HP.out];exact if_pos hv
   clear HP;have v1:¬v<0:=by omega
   have v2:¬(most:Int)<v:=by omega
   have v3:v<=(most:Int):=hv.2;have v4:0<=v:=hv.1;go_enter Tryz.func25,Tryz.ntmps25;go_wp2_with (first
    |(go_at_call 21;refine HS.out.mono ?_;rintro e w1 ⟨rfl,hT,hE⟩;have HT:=hid hT;have HE:=hid hE;clear hT hE HS)
    |(go_at_call 45;refine(HW.out _).mono ?_;rintro e w2 ⟨hb,n,rfl,hnv⟩;have hnv1:=hnv v rfl;subst hnv1;have HB:=hid hb;clear hb HW hnv))
   go_ret2
   refine⟨HE.out.trans (EF.of_below HB.out),by rw[HE0.out];exact⟨HT.out.keep HB.out,HN.out⟩,_,rfl,λx q hx=>?_⟩;rw[HE0.out]at hx;cases hx;exact⟨by simp;omega,by simp;omega⟩
  ·have HE0:Hid (pTag s most p=.error (2,tokA s p)):=by show _=_;rw[HP.out];exact if_neg hv
   clear HP;have HV:=hid hv;clear hv;go_enter Tryz.func25,Tryz.ntmps25;go_wp2_with (first
    |(go_at_call 21;refine HS.out.mono ?_;rintro e w1 ⟨rfl,hT,hE⟩;have HT:=hid hT;have HE:=hid hE;clear hT hE HS)
    |(go_at_call 45;refine(HW.out _).mono ?_;rintro e w2 ⟨hb,n,rfl,hnv⟩;have hnv1:=hnv v rfl;subst hnv1;have HB:=hid hb;clear hb HW hnv)
    |(go_at_call 23;refine(HF.out _ (HT.out.keep HB.out)).mono ?_;rintro e w3 ⟨rfl,hT2,hE2⟩;have HT2:=hid hT2;have HE2:=hid hE2;clear hT2 hE2))
   all_goals first
    |(go_ret2
      exact⟨(HE.out.trans (EF.of_below HB.out)).trans HE2.out,by rw[HE0.out];exact⟨_,HT2.out,HN.out⟩,_,rfl,λx q hx=>by rw[HE0.out]at hx;cases hx⟩)
    |(exfalso;have h:=HV.out;omega)
end Go.Proofs.YtlanckgcjijefaaGreatDoor
