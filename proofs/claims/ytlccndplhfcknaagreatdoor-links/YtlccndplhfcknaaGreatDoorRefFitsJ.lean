import Derived.Test.YtlccndplhfcknaaGreatDoorWrongJ
import Derived.Test.YtlccndplhfcknaaGreatDoorValsJ
set_option maxHeartbeats 8000000
namespace Go.Proofs.YtlccndplhfcknaaGreatDoor
open Go.RowKit
theorem hid2{p:Prop}(h:p):Hid p:=h
theorem nodup_le:∀(n:Nat) (l:List Nat),l.Nodup->(∀x∈l,x<n)->l.length<=n
 |0,l,_,h=>by
  cases l with
  |nil=>simp
  |cons a r=>exact absurd (h a (by simp)) (by omega)
 |n+1,l,hd,h=>by
  have h1:(l.erase n).Nodup:=hd.erase n;have h2:∀x∈l.erase n,x<n:=λx hx=>by
   have h3:=List.mem_of_mem_erase hx;have h4:x≠n:=λe=>by subst e;exact(List.Nodup.not_mem_erase hd) hx
   have:=h x h3;omega
  have h5:=nodup_le n (l.erase n) h1 h2;by_cases hm:n∈l
  ·have:=List.length_erase_of_mem hm;omega
  ·rw[List.erase_of_not_mem hm]at h5;omega
theorem altsB_len(l:List LAlt)(h:altsB l=true):l.length<=256:=by
 obtain⟨h1,h2⟩:=(altsB_iff l).1 h;have hr:∀j (hj:j<l.length),0<=l[j].tag∧l[j].tag<=255:=λj hj=>by
  have:=h1 j hj hj;simp only[altOk,Bool.and_eq_true,decide_eq_true_eq]at this;omega
 have:=nodup_le 256 (l.map λa=>a.tag.toNat) ?_ ?_
 ·simpa using this
 ·rw[List.nodup_iff_pairwise_ne,List.pairwise_iff_getElem];intro i j hi hj hij;simp only[List.length_map]at hi hj;have a1:=h2 i j hi hj hij hj;have a2:=hr i hi;have a3:=hr j hj;simp only[List.getElem_map];omega
 ·intro x hx;obtain⟨a,ha,rfl⟩:=List.mem_map.1 hx;obtain⟨i,hi,rfl⟩:=List.mem_iff_getElem.1 ha;have:=hr i hi;omega
theorem altsGood_eq(l:List LAlt):altsGood l=(altsB l && decide (0<l.length)):=by
 unfold altsGood;cases h:altsB l with
 |true=>simp[altsB_len l h]
 |false=>simp
theorem insG_row(k:Nat)(hk:k<21)(a:Int)(alts:List LAlt):insG k a alts=
 if rowN k 0=1 then (alts.length:Int)==0 else if rowN k 0=2 then ((alts.length:Int)==0) && decide (rowN k 1<=a) && decide (a<=rowN k 2) else if rowN k 0=3 then (a==0) && altsGood alts else (a==0) && ((alts.length:Int)==0):=by
 simp only[insG];rw[if_pos (by omega)];rfl
theorem refFits_case(a:Int)(alts:List LAlt)(av:Value)(w:World)(hA:AltsAt w av alts)(ha:a=0):
 Calls Tryz.prog 47 #[.agg #[.int .i64 17,.int .i64 a,av]] w λe w'=>e=.returned (.bool (altsGood alts))∧Below w.heap.size w w':=by
 subst ha;obtain⟨p,cap,rfl,hs1,hcell⟩:=hA.open;have HC:Hid (∀w',Below w.heap.size w w'->AltsIn w' p alts):=hcell;have HB:Hid (∀w,Calls Tryz.prog 65 #[.int .i64 17] w λe w'=>e=.returned (.tuple #[.int .i64 1,.int .i64 0])∧w'=w):=λw=>refBounds_any 17 (by omega) w;have HG:=hid2 (altsGood_eq alts);clear hcell hA;go_enter Tryz.func47,Tryz.ntmps47;go_wp2_with (first|(go_at_call 65;refine(HB.out _).mono ?_;rintro e w1 ⟨rfl,rfl⟩))
 go_loopw [5] (λi wr=>∃k:Nat,k<=alts.length∧i=.int .i64 k∧Hid (altsUpto alts k)∧wr.cell? ⟨w.heap.size,0,none⟩=some (.int .i64 17)∧wr.cell? ⟨w.heap.size,2,none⟩=some (.slice p alts.length cap)∧Below w.heap.size w wr∧w.heap.size<wr.heap.size) (λi _=>alts.length-(intOf i).toNat)
 case atStart=>exact⟨0,Nat.zero_le _,rfl,altsUpto_zero _,by simp,by simp,(Below.refl _ _).alloc (Nat.le_refl _) _,by simp⟩
 case round=>
  obtain⟨k,hk,rfl,ha,q0,q2,hb,hz⟩:=hrel;by_cases hlt:k<alts.length
  ·obtain⟨b,o,rfl,c0,c1⟩:=HC.out _ hb k hlt;have HTG:=hid2 (Eq.refl alts[k].tag);by_cases hok:altOk alts[k]=true
   ·have hok2:0<=alts[k].tag∧alts[k].tag<=255∧0<=alts[k].to∧alts[k].to<=65535:=by
     simp only[altOk,Bool.and_eq_true,decide_eq_true_eq]at hok;omega
    obtain⟨k1,k2,k3,k4⟩:=hok2;have HOK:Hid (altOk alts[k]=true):=hok;have hbs:Nat.ble 0 0=true:=rfl;clear hok hbs;generalize htg:alts[k].tag=tg at*;have HT:Hid (alts[k].tag=tg):=htg;clear htg HTG;generalize alts[k].to=tto at*;have t1:decide (tg<0)=false:=by simp;omega
    have t2:decide (255<tg)=false:=by simp;omega
    have t3:decide (tto<0)=false:=by simp;omega
    have t4:decide (65535<tto)=false:=by simp;omega
    rename World=>W0
    go_wp2;go_loopw [7] (λs wx=>∃j:Nat,j<=k∧s=.int .i64 j∧Hid (∀i (hi:i<alts.length),i<j->alts[i].tag≠alts[k].tag)∧wx.cell? ⟨W0.heap.size,0,none⟩=some (.int .i64 tg)∧wx.cell? ⟨w.heap.size,0,none⟩=some (.int .i64 17)∧wx.cell? ⟨w.heap.size,2,none⟩=some (.slice (some ⟨b,o,none⟩) alts.length cap)∧Below w.heap.size w wx∧w.heap.size<wx.heap.size) (λs _=>k-(intOf s).toNat)
    case atStart=>exact⟨0,Nat.zero_le _,rfl,λ_ _ h=>absurd h (by omega),by simp,by rw[World.cell?_alloc_lt _ _ _ hz];exact q0,by rw[World.cell?_alloc_lt _ _ _ hz];exact q2,hb.alloc hb.size _,by simp;omega⟩
    case round=>
     obtain⟨j,hj,rfl,hd,y1,y2,y3,hbx,hzx⟩:=hrel;clear q0 q2 c0 c1 t1 t2 t3 t4 hb hz;by_cases hjl:j<k
     ·obtain⟨b',o',e,x0,x1⟩:=HC.out _ hbx j (by omega);obtain⟨rfl,rfl⟩:b=b'∧o=o':=by simpa using e
      have hj1:(0:Int)<=(j:Int):=by omega
      have hj2:(j:Int)<(alts.length:Int):=by omega
      have HTW:Hid (alts[j].tag=tg->altsB alts=false):=λh=>altsB_twice alts k hlt ⟨j,by omega,hjl,by rw[HT.out];exact h⟩;have HND:Hid (alts[j].tag≠tg->∀i (hi:i<alts.length),i<j+1->alts[i].tag≠alts[k].tag):=by
       intro h i hi hij;by_cases e:i=j
       ·subst e;rw[HT.out];exact h
       ·exact hd.out i hi (by omega)
      clear e x1;generalize alts[j].tag=tj at*;go_wp2;go_quiet (fail);go_wp2;any_goals
       go_ret;exact⟨ret_bool (by rw[HG.out,HTW.out (by simp_all)];rfl),below_drewN hbx _⟩
      all_goals exact⟨⟨j+1,by omega,by go_num,HND.out (by simp_all),y1,y2,y3,below_drewN hbx _,hzx⟩,by simp[intOf];omega⟩
     ·go_wp2;exact⟨⟨k+1,by omega,by go_num,altsUpto_next alts k hlt ha.out HOK.out (λi hi hik=>hd.out i hi (by omega)),y2,y3,hbx,hzx⟩,by simp[intOf];omega⟩
   ·have hok2:alts[k].tag<0∨255<alts[k].tag∨alts[k].to<0∨65535<alts[k].to:=by
     have:altOk alts[k]=false:=by simpa using hok
     simp only[altOk,Bool.and_eq_false_iff,decide_eq_false_iff_not]at this;omega
    have HBad:Hid (altsB alts=false):=altsB_bad alts k hlt (by simpa using hok);clear hok HTG;generalize alts[k].tag=tg at*;generalize alts[k].to=tto at*;go_wp2;all_goals
     go_ret;exact⟨ret_bool (by rw[HG.out,HBad.out];rfl),hb.alloc hb.size _⟩
  ·have HE:Hid (altsB alts=true):=(altsB_iff alts).2 (by have:=ha.out;rw[show k=alts.length by omega]at this;exact this);go_wp2;go_ret;refine⟨ret_bool ?_,hb⟩;rw[HG.out,HE.out,Bool.true_and]
theorem bd_facts(k:Nat)(hk:k<21)(h17:k≠17):
 (rowN k 0=2∧(if k=7 then (1:Int) else if rowN k 0=2 then 0 else 1)=rowN k 1∧(if rowN k 0=2 then rowN k 2 else 0)=rowN k 2∧rowN k 1<=rowN k 2∧k≠0)∨k=0∨
 (rowN k 0=0∧(if k=7 then (1:Int) else if rowN k 0=2 then 0 else 1)=1∧(if rowN k 0=2 then rowN k 2 else 0)=0∧k≠0):=by
 rcases all21 k hk with rfl|rfl|rfl|rfl|rfl|rfl|rfl|rfl|rfl|rfl|rfl|rfl|rfl|rfl|rfl|rfl|rfl|rfl|rfl|rfl|rfl;all_goals first|(exact absurd rfl h17)|decide
theorem refFits_any(op a:Int)(alts:List LAlt)(av:Value)(w:World)(hA:AltsAt w av alts):
 Calls Tryz.prog 47 #[.agg #[.int .i64 op,.int .i64 a,av]] w λe w'=>e=.returned (.bool (insG op a alts))∧Below w.heap.size w w':=by
 obtain⟨p,cap,rfl,hs1,-⟩:=hA.open;by_cases ho:0<=op∧op<21
 ·obtain⟨k,rfl⟩:=Int.eq_ofNat_of_zero_le ho.1;have hk:k<21:=by omega
  have hR:=insG_row k hk a alts;by_cases h17:k=17
  ·subst h17;have e0:rowN 17 0=3:=rfl;rw[e0]at hR;by_cases ha:a=0
   ·have:insG ((17:Nat):Int) a alts=altsGood alts:=by rw[hR];simp[ha]
    rw[this];exact refFits_case a alts _ w hA ha
   ·have HF:Hid (insG ((17:Nat):Int) a alts=false):=by show _=_;rw[hR];simp[ha]
    have hb:(a !=0)=true:=by simp[ha]
    have HB:Hid (∀w,Calls Tryz.prog 65 #[.int .i64 17] w λe w'=>e=.returned (.tuple #[.int .i64 1,.int .i64 0])∧w'=w):=λw=>refBounds_any 17 (by omega) w;clear hR hA ho;go_enter Tryz.func47,Tryz.ntmps47;go_wp2_with (first|(go_at_call 65;refine(HB.out _).mono ?_;rintro e w1 ⟨rfl,rfl⟩))
    go_ret;exact⟨ret_bool HF.out.symm,(Below.refl _ _).alloc (Nat.le_refl _) _⟩
  ·have hkz:decide ((k:Int)<0)=false:=by rw[decide_eq_false_iff_not];omega
   have hkm:decide (20<(k:Int))=false:=by rw[decide_eq_false_iff_not];omega
   have hk17:((k:Int) !=17)=true:=by rw[bne_iff_ne];omega
   have hf:=bd_facts k hk h17;have HB0:=hid2 (λw=>refBounds_any k hk w);by_cases hn:alts.length=0
   ·have hn1:((alts.length:Int)==0)=true:=by simp[hn]
    have hn2:((alts.length:Int) !=0)=false:=by simp[hn]
    rw[hn1]at hR;have HR:=hid2 hR;clear hR hA ho hn1;generalize alts.length=n at*;subst hn;rcases hf with⟨f0,f1,f2,f3,f4⟩|rfl|⟨f0,f1,f2,f4⟩
    ·have HB:Hid (∀w,Calls Tryz.prog 65 #[.int .i64 k] w λe w'=>e=.returned (.tuple #[.int .i64 (rowN k 1),.int .i64 (rowN k 2)])∧w'=w):=λw=>by have:=HB0.out w;rw[f1,f2]at this;exact this
     have HR2:Hid (insG k a alts=(decide (rowN k 1<=a) && decide (a<=rowN k 2))):=by show _=_;rw[HR.out,f0];simp
     clear f0 f1 f2 f4 HR HB0;generalize rowN k 1=r1 at*;generalize rowN k 2=r2 at*;go_enter Tryz.func47,Tryz.ntmps47;go_wp2_with (first|(go_at_call 65;refine(HB.out _).mono ?_;rintro e w1 ⟨rfl,rfl⟩))
     all_goals
      go_ret;refine⟨ret_bool ?_,(Below.refl _ _).alloc (Nat.le_refl _) _⟩;rw[HR2.out];simp_all;try omega
    ·have HB:Hid (∀w,Calls Tryz.prog 65 #[.int .i64 0] w λe w'=>e=.returned (.tuple #[.int .i64 1,.int .i64 0])∧w'=w):=λw=>HB0.out w;have HR2:Hid (insG ((0:Nat):Int) a alts=true):=by show _=_;rw[HR.out];rfl
     clear HR HB0 hk17 hkz hkm;go_enter Tryz.func47,Tryz.ntmps47;go_wp2_with (first|(go_at_call 65;refine(HB.out _).mono ?_;rintro e w1 ⟨rfl,rfl⟩))
     go_ret;exact⟨ret_bool HR2.out.symm,(Below.refl _ _).alloc (Nat.le_refl _) _⟩
    ·have HB:Hid (∀w,Calls Tryz.prog 65 #[.int .i64 k] w λe w'=>e=.returned (.tuple #[.int .i64 1,.int .i64 0])∧w'=w):=λw=>by have:=HB0.out w;rw[f1,f2]at this;exact this
     have HR2:Hid (insG k a alts=(a==0)):=by show _=_;rw[HR.out,f0];simp
     have hk0:((k:Int)==0)=false:=by rw[beq_eq_false_iff_ne];omega
     clear f0 f1 f2 f4 HR HB0;cases ha:(a !=0)
     ·have ea:(a==0)=true:=by simpa using ha
      rw[ea]at HR2;go_enter Tryz.func47,Tryz.ntmps47;go_wp2_with (first|(go_at_call 65;refine(HB.out _).mono ?_;rintro e w1 ⟨rfl,rfl⟩))
      refine wp_loop_rounds 1 ?_;rw[rounds_succ];go_wp2;go_ret;exact⟨ret_bool HR2.out.symm,(Below.refl _ _).alloc (Nat.le_refl _) _⟩
     ·have ea:(a==0)=false:=by simpa using ha
      rw[ea]at HR2;go_enter Tryz.func47,Tryz.ntmps47;go_wp2_with (first|(go_at_call 65;refine(HB.out _).mono ?_;rintro e w1 ⟨rfl,rfl⟩))
      go_ret;exact⟨ret_bool HR2.out.symm,(Below.refl _ _).alloc (Nat.le_refl _) _⟩
   ·have hn1:((alts.length:Int)==0)=false:=by rw[beq_eq_false_iff_ne];omega
    have hn2:((alts.length:Int) !=0)=true:=by rw[bne_iff_ne];omega
    have HF:Hid (insG k a alts=false):=by
     show _=_;rw[hR,hn1];rcases hf with⟨f0,-⟩|rfl|⟨f0,-⟩
     ·rw[f0];simp
     ·rfl
     ·rw[f0];simp
    clear hR hA ho hf HB0;go_enter Tryz.func47,Tryz.ntmps47;go_wp2;go_ret;exact⟨ret_bool HF.out.symm,(Below.refl _ _).alloc (Nat.le_refl _) _⟩
 ·have HF:Hid (insG op a alts=false):=by show _=_;simp only[insG];rw[if_neg ho]
  clear hA;by_cases h0:op<0
  ·go_enter Tryz.func47,Tryz.ntmps47;go_wp2;go_ret;exact⟨ret_bool HF.out.symm,(Below.refl _ _).alloc (Nat.le_refl _) _⟩
  ·have h20:20<op:=by omega
   clear ho;go_enter Tryz.func47,Tryz.ntmps47;go_wp2;go_ret;exact⟨ret_bool HF.out.symm,(Below.refl _ _).alloc (Nat.le_refl _) _⟩
end Go.Proofs.YtlccndplhfcknaaGreatDoor
