import Derived.Test.YtlccndplhfcknaaGreatDoorSearchJ
import Derived.Test.YtlccndplhfcknaaGreatDoorGoodAJ
set_option maxHeartbeats 1000000
namespace Go.Proofs.YtlccndplhfcknaaGreatDoor
open Go.RowKit
def insG(op a:Int)(alts:List LAlt):Bool:=
 if 0<=op∧op<21 then
  if rowN op.toNat 0=1 then (alts.length:Int)==0
  else if rowN op.toNat 0=2 then ((alts.length:Int)==0) && decide (rowN op.toNat 1<=a) && decide (a<=rowN op.toNat 2)
  else if rowN op.toNat 0=3 then (a==0) && altsGood alts
  else (a==0) && ((alts.length:Int)==0)
 else false
theorem goodIns_any(op a:Int)(alts:List LAlt)(av:Value)(w:World)(hA:AltsAt w av alts)(hT:TabAt w):
 Calls Tryz.prog 89 #[.agg #[.int .i64 op,.int .i64 a,av]] w λe w'=>e=.returned (.bool (insG op a alts))∧Below w.heap.size w w':=by
 obtain⟨p,cap,rfl,hs1,-⟩:=id hA;have hs2:=hs1.le;clear hs1;have HA:Hid (AltsAt w (.slice p alts.length cap) alts):=hA;clear hA;by_cases ho:0<=op∧op<21
 ·obtain⟨k,rfl⟩:=Int.eq_ofNat_of_zero_le ho.1;have hk:k<21:=by omega
  have HG:Hid (insG k a alts=if rowN k 0=1 then (alts.length:Int)==0 else if rowN k 0=2 then ((alts.length:Int)==0) && decide (rowN k 1<=a) && decide (a<=rowN k 2) else if rowN k 0=3 then (a==0) && altsGood alts else (a==0) && ((alts.length:Int)==0)):=by
   show _=_;simp only[insG];rw[if_pos ho];rfl
  have hx0:=cell_keep ((Below.refl _ _).alloc (Nat.le_refl _) (.cells #[.int .i64 k,.int .i64 a,.slice p alts.length cap] 37)) (hT.row k 0 hk (by omega));have hx1:=cell_keep ((Below.refl _ _).alloc (Nat.le_refl _) (.cells #[.int .i64 k,.int .i64 a,.slice p alts.length cap] 37)) (hT.row k 1 hk (by omega));have hx2:=cell_keep ((Below.refl _ _).alloc (Nat.le_refl _) (.cells #[.int .i64 k,.int .i64 a,.slice p alts.length cap] 37)) (hT.row k 2 hk (by omega));have HX0:Hid _:=hx0;have HX1:Hid _:=hx1;have HX2:Hid _:=hx2;clear hx0 hx1 hx2 hT;have hd:(decide ((0:Int)<=(k:Int)) && decide ((k:Int)<21))=true:=by simp;omega
  generalize rowN k 0=r0 at*;generalize rowN k 1=r1 at*;generalize rowN k 2=r2 at*;clear ho;have hd2:decide ((k:Int)<21)=true:=by simp;omega
  generalize hn:alts.length=n at*;have HN:Hid (alts.length=n):=hn;clear hn hd;go_enter Tryz.func89,Tryz.ntmps89;go_wp2_with (first|(go_at_call 109;refine(isOp_any _ _).mono ?_;rintro e w' ⟨rfl,rfl⟩)|(go_at_call 110;refine(kindOf_any k r0 _ hk HX0.out).mono ?_;rintro e w' ⟨rfl,rfl⟩)|(go_at_call 111;refine(bounds_any k r1 r2 _ hk HX1.out HX2.out).mono ?_;rintro e w' ⟨rfl,nd,rfl⟩)|(go_at_call 112;refine(goodAlts_any alts _ _ ?_).mono ?_;exact HA.out.keep ((Below.refl _ _).alloc (Nat.le_refl _) _);rintro e w' ⟨rfl,hb2⟩))
  all_goals
   go_ret;refine⟨ret_bool ?_,?_⟩
   ·rw[HG.out];clear HA HX0 HX1 HX2 HN HG;first|(simp_all;done)|(simp_all;omega)
   ·first|exact(Below.refl _ _).alloc (Nat.le_refl _) _|exact below_drewN ((Below.refl _ _).alloc (Nat.le_refl _) _) _|exact((Below.refl _ _).alloc (Nat.le_refl _) _).trans (hb2.mono (by simp))
 ·have HG:Hid (insG op a alts=false):=by show _=_;simp only[insG];rw[if_neg ho]
  have hd:(decide ((0:Int)<=op) && decide (op<21))=false:=by simp;omega
  go_enter Tryz.func89,Tryz.ntmps89;go_wp2_with (first|(go_at_call 109;refine(isOp_any _ _).mono ?_;rintro e w' ⟨rfl,rfl⟩))
  all_goals
   go_ret;exact⟨ret_bool HG.out.symm,(Below.refl _ _).alloc (Nat.le_refl _) _⟩
end Go.Proofs.YtlccndplhfcknaaGreatDoor
