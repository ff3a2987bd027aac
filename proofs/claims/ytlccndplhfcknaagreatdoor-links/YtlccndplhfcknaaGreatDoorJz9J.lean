import Derived.Test.YtlccndplhfcknaaGreatDoorJzJ
set_option maxRecDepth 100000
set_option maxHeartbeats 2000000
namespace Go.Proofs.YtlccndplhfcknaaGreatDoor
open Go.RowKit Go.Sort
theorem do19_any{lo:Nat}{w:World}{M Pb:Nat}{st:MSt}{B:List Nat}(R:MSt->Prop)(h:MM lo w M Pb st B)(hm:Mtr st)(hsb:stepB st=true){k:Nat}(hat:st.fr.at_=(k:Int))(hk:k<st.fr.code.length)(hkb:k<=1000000000)(hop:st.fr.code[k].op=19)
 (hL:∀w' B',MM lo w' M Pb (nextS (stepS st)) B'->Below lo w w'->Calls Tryz.prog 79 #[.pointer (some ⟨M,0,none⟩)] w' λe w''=>∃st2,R st2∧MRes lo M Pb B' w' st2 (.tuple #[]) e w''):
 Calls Tryz.prog 80 #[.pointer (some ⟨M,0,none⟩)] w λe w'=>∃st2,R st2∧MRes lo M Pb B w st2 (.tuple #[]) e w':=by
 have HS:=hid (step_any h hm);have hlow:lo<=w.heap.size∧∀b∈B,lo<=b:=by
  obtain⟨cs,ds,cv,sv,kv,dv,tv,h,rfl⟩:=h;exact⟨h.lz,λb hb=>(h.rg b hb).1⟩
 rw[hsb]at HS;have HNX:Hid (∀w1 B1,AG B w w1->MM lo w1 M Pb (stepS st) B1->(∀b∈B1,b∈B∨w.heap.size<=b)->∃b n c:Nat,(k:Int)<(n:Int)∧w1.cell? ⟨M,4,none⟩=some (.slice (some ⟨b,0,none⟩) n c)∧w1.cell? ⟨M,5,none⟩=some (.int .i64 (k:Int))∧w1.frozen? ⟨M,5,none⟩=false∧(w1.setCell ⟨M,5,none⟩ (.int .i64 ((k:Int)+1))).cell? ⟨b,k*3,none⟩=some (.int .i64 19)∧Calls Tryz.prog 79 #[.pointer (some ⟨M,0,none⟩)] (w1.setCell ⟨M,5,none⟩ (.int .i64 ((k:Int)+1))).drew λe w'=>e=.returned (.tuple #[])∧Hid (∃st2,R st2∧MRes lo M Pb B w st2 (.tuple #[]) (.returned (.tuple #[])) w')):=by
  intro w1 B1 hag hM hB1;have hat':(stepS st).fr.at_=(k:Int):=by rw[stepS_ok hsb];exact hat
  have hcd:(stepS st).fr.code=st.fr.code:=by rw[stepS_ok hsb]
  obtain⟨b,n,c,ap,an,ac,hkn,e4,e5,f5,⟨c0,c1,c2⟩,-,-,hN,hA⟩:=hM.next (k:=k) hat' (by rw[hcd];exact hk);simp only[hcd]at c0 c1;refine⟨b,n,c,by omega,e4,e5,f5,by rw[<-hop];exact c0,?_⟩;have hA1:=(hag.trans hA hB1).then (Below.refl _ _).drew;refine(hL _ _ (hN.keep (Below.refl _ _).drew) (hA1.low hlow.2 hlow.1)).mono ?_;rintro e w' ⟨st2,hR,hr⟩;have he:=hr.1;exact⟨he,st2,hR,hr.of hA1 hB1 rfl⟩
 clear h hsb hm hat hL hlow;go_enter Tryz.func80,Tryz.ntmps80;go_wp2_with (first
  |(go_at_call 58;refine HS.out.mono ?_;rintro e w1 ⟨rfl,hag,B1,hM1,hB1⟩;obtain⟨b,n,c,hkn,e4,e5,f5,c0,hcall⟩:=HNX.out w1 B1 hag hM1 hB1;have HCL:=hid hcall;clear hag hM1 hB1 hcall))
 go_region
 go_wp2_with (first
  |(go_at_call 79;refine HCL.out.mono ?_;rintro e w2 ⟨rfl,HRR⟩))
 refine bE ?_;exact HRR.out
end Go.Proofs.YtlccndplhfcknaaGreatDoor
