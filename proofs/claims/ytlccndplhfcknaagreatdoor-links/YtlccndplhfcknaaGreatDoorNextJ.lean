import Derived.Test.YtlccndplhfcknaaGreatDoorReachJ
set_option maxHeartbeats 4000000
namespace Go.Proofs.YtlccndplhfcknaaGreatDoor
open Go.RowKit
def succI(op a:Int)(alts:List LAlt)(k:Nat):List Int:=if op=19∨op=20 then [] else if op=18 then [a] else if op=17 then alts.map (·.to) else [(k:Int)+1]
def intsV(l:List Int):List Value:=l.map λa=>Value.int .i64 a
def OwnInts(w:World)(base:Nat)(v:Value)(l:List Int):Prop:=w.ownsRow base 3 1 v l.length (intsV l)
theorem next_any(op a:Int)(alts:List LAlt)(av:Value)(k:Nat)(w:World)(hA:AltsAt w av alts)(hl:alts.length<=256)(hk:k<=65535):
 Calls Tryz.prog 66 #[.agg #[.int .i64 op,.int .i64 a,av],.int .i64 k] w λe w'=>(∃v,e=.returned v∧OwnInts w' w.heap.size v (succI op a alts k))∧Below w.heap.size w w':=by
 obtain⟨p,cap,rfl,hs1,hcell⟩:=hA.open;have HC:Hid (∀w',Below w.heap.size w w'->AltsIn w' p alts):=hcell;obtain⟨i,hi,hii⟩:=Option.map_eq_some_iff.1 Tryz.intInfo;simp only[Prod.mk.injEq]at hii;obtain⟨hz0,hz1,hz2⟩:=hii;have HI:Hid (i.zero=some (.int .i64 0)∧i.size=1∧i.bytes=8):=⟨hz0,hz1,hz2⟩;clear hcell hA hz0 hz1 hz2;by_cases h19:op=19∨op=20
 ·have HS:Hid (succI op a alts k=[]):=by show _=_;unfold succI;rw[if_pos h19]
  rcases h19 with rfl|rfl;all_goals
   go_enter Tryz.func66,Tryz.ntmps66;go_wp2;go_ret;exact⟨⟨_,rfl,by rw[HS.out];exact⟨rfl,Or.inl ⟨rfl,rfl⟩⟩⟩,(Below.refl _ _).alloc (Nat.le_refl _) _⟩
 ·by_cases h18:op=18
  ·subst h18;have HS:Hid (succI 18 a alts k=[a]):=rfl;go_enter Tryz.func66,Tryz.ntmps66;go_wp2_with (first|(at_builtin;refine wpList_append_lies _ rfl _ _ _ rfl w.heap.size 3 i (.int .i64 0) 1 8 Tryz.underlying112 hi HI.out.1 HI.out.2.1 HI.out.2.2 rfl (by omega) (.slice none 0 0) 0 [] rfl ⟨rfl,Or.inl ⟨rfl,rfl⟩⟩ ⟨w.heap.size+1,0,none⟩ 1 1 [.int .i64 a] rfl rfl ?hnews ?h1 (by omega) ?h63 ?hbytes ?hbase (w.heap.size+1+1) ?hH ?_))
   case hnews=>exact news_one _ _ _ _ (by simp)
   case h1=>intro u hu;simp at hu;subst hu;rfl
   case h63=>unfold maxLen;omega
   case hbytes=>omega
   case hbase=>simp;omega
   case hH=>simp
   intro g gc w1 hown hgrow hat hlt;go_wp2;go_ret;refine⟨⟨_,rfl,by rw[HS.out];exact hown⟩,?_⟩;refine Below.grown ?_ hgrow (by simp;omega) (by intro k hk;cases hk);exact((Below.refl _ _).alloc (Nat.le_refl _) _).alloc (by simp) _
  ·have b18:(op==18)=false:=by simp[h18]
   have b19:(op==19)=false:=by simp;omega
   have b20:(op==20)=false:=by simp;omega
   by_cases h17:op=17
   ·subst h17;have HS:Hid (succI 17 a alts k=alts.map (·.to)):=rfl;go_enter Tryz.func66,Tryz.ntmps66;go_wp2;go_loopw [5,6] (λs i wr=>∃(j:Nat) (sv:Value),j<=alts.length∧s=sv∧i=.int .i64 j∧Hid (OwnInts wr w.heap.size sv ((alts.take j).map (·.to)))∧Hid (sv.ownBlock≠some w.heap.size)∧Below w.heap.size w wr∧wr.cell? ⟨w.heap.size,2,none⟩=some (.slice p alts.length cap)∧w.heap.size<wr.heap.size) (λ_ i _=>alts.length-(intOf i).toNat)
    case atStart=>exact⟨0,.slice none 0 0,Nat.zero_le _,rfl,rfl,⟨rfl,Or.inl ⟨rfl,rfl⟩⟩,(by intro h;cases h),(Below.refl _ _).alloc (Nat.le_refl _) _,by simp,by simp⟩
    case round=>
     obtain⟨j,sv,hj,rfl,rfl,ho,hne,hb,q2,hz⟩:=hrel;by_cases hlt:j<alts.length
     ·obtain⟨b,o,rfl,x0,x1⟩:=HC.out _ hb j hlt;have HL:Hid (((alts.take (j+1)).map (·.to))=((alts.take j).map (·.to))++[alts[j].to]):=by
       show _=_;rw[List.take_succ_eq_append_getElem hlt,List.map_append];rfl
      have hN:((alts.take j).map (·.to)).length=j:=by simp;omega
      have hO:wr.ownsRow w.heap.size 3 1 u5 ((alts.take j).map (·.to)).length (intsV ((alts.take j).map (·.to))):=ho.out;rw[hN]at hO;have HO:Hid (wr.ownsRow w.heap.size 3 1 u5 j (intsV ((alts.take j).map (·.to)))):=hO;have HN:Hid (((alts.take j).map (·.to)).length=j):=hN;clear hO hN ho;generalize alts[j].tag=tg at*;generalize alts[j].to=tto at*;generalize ((alts.take j).map (·.to))=pre at*;go_wp2_with (first|(at_builtin;refine wpList_append_lies _ rfl _ _ _ rfl w.heap.size 3 i (.int .i64 0) 1 8 Tryz.underlying112 hi HI.out.1 HI.out.2.1 HI.out.2.2 rfl (by omega) u5 j (intsV pre) rfl (HO.out.alloc _) ⟨wr.heap.size,0,none⟩ 1 1 [.int .i64 tto] rfl rfl ?hnews ?h1 (by omega) ?h63 ?hbytes ?hbase (wr.heap.size+1) ?hH ?_))
      case hnews=>exact news_one _ _ _ _ (by simp)
      case h1=>intro u hu;simp at hu;subst hu;rfl
      case h63=>unfold maxLen;omega
      case hbytes=>omega
      case hbase=>simp;omega
      case hH=>simp
      intro g gc w1 hown hgrow hat hlt2;have hfar:w1.cell? ⟨w.heap.size,2,none⟩=some (.slice (some ⟨b,o,none⟩) alts.length cap):=by
       rw[hgrow.cell_far ⟨w.heap.size,2,none⟩ (by simp;omega) (λe=>hne.out e.symm),World.cell?_alloc_lt _ _ _ hz];exact q2
      have hs3:=hgrow.size;simp at hs3;have HOW:Hid (OwnInts w1 w.heap.size (.slice (some ⟨g,0,none⟩) (j+1) gc) (pre++[tto])):=by
       show w1.ownsRow _ _ _ _ _ _;rw[List.length_append,HN.out,intsV,List.map_append];exact hown
      have HNE:Hid ((Value.slice (some ⟨g,0,none⟩) (j+1) gc).ownBlock≠some w.heap.size):=by
       intro e;have e':g=w.heap.size:=by simpa[Value.ownBlock]using e
       rcases hat with h|h
       ·exact hne.out (by rw[h,e'])
       ·omega
      have hbf:Below w.heap.size w w1:=by
       refine Below.grown (hb.alloc (by omega) _) hgrow (by simp;omega) ?_;intro g' hg';rcases HO.out.2 with⟨rfl,_⟩|⟨g2,cap2,cur,rfl,hbb,_⟩
       ·cases hg'
       ·simp[Value.ownBlock]at hg';omega
      clear hown hgrow hat;go_wp2;exact⟨⟨j+1,_,by omega,rfl,by go_num,by rw[HL.out];exact HOW,HNE,hbf,hfar,by omega⟩,by simp[intOf];omega⟩
     ·have HFin:Hid (OwnInts wr w.heap.size u5 (alts.map (·.to))):=by
       have:=ho.out;rw[List.take_of_length_le (by omega)]at this;exact this
      go_wp2;go_ret;exact⟨⟨_,rfl,by rw[HS.out];exact HFin.out⟩,hb⟩
   ·have b17:(op==17)=false:=by simp[h17]
    have HS:Hid (succI op a alts k=[(k:Int)+1]):=by show _=_;unfold succI;rw[if_neg h19,if_neg h18,if_neg h17]
    clear h17 h18 h19;go_enter Tryz.func66,Tryz.ntmps66;go_wp2_with (first|(at_builtin;refine wpList_append_lies _ rfl _ _ _ rfl w.heap.size 3 i (.int .i64 0) 1 8 Tryz.underlying112 hi HI.out.1 HI.out.2.1 HI.out.2.2 rfl (by omega) (.slice none 0 0) 0 [] rfl ⟨rfl,Or.inl ⟨rfl,rfl⟩⟩ ⟨w.heap.size+1,0,none⟩ 1 1 [.int .i64 ((k:Int)+1)] rfl rfl ?hnews ?h1 (by omega) ?h63 ?hbytes ?hbase (w.heap.size+1+1) ?hH ?_))
    case hnews=>exact news_one _ _ _ _ (by simp)
    case h1=>intro u hu;simp at hu;subst hu;rfl
    case h63=>unfold maxLen;omega
    case hbytes=>omega
    case hbase=>simp;omega
    case hH=>simp
    intro g gc w1 hown hgrow hat hlt;go_wp2;go_ret;refine⟨⟨_,rfl,by rw[HS.out];exact hown⟩,?_⟩;refine Below.grown ?_ hgrow (by simp;omega) (by intro k hk;cases hk);exact((Below.refl _ _).alloc (Nat.le_refl _) _).alloc (by simp) _
end Go.Proofs.YtlccndplhfcknaaGreatDoor
