import Derived.Test.YtdpodpjdcfjfgaaGreatDoorJzJ
set_option maxRecDepth 100000
set_option maxHeartbeats 8000000
namespace Go.Proofs.YtdpodpjdcfjfgaaGreatDoor
open Go.RowKit Go.Sort
theorem packParts_any(a:Int)(w:World)(ha:0<=a∧a<=1000000000):Calls Tryz.prog 286 #[.int .i64 a] w λe w'=>e=.returned (.tuple #[.int .i64 (a.tdiv 256),.int .i64 (a % 256)])∧w'=w:=by
 have h1:IntKind.i64.wrap (a.tdiv 256)=a.tdiv 256:=i64w (by
  rw[Int.tdiv_eq_ediv_of_nonneg ha.1];omega)
 have h2:IntKind.i64.wrap (a.tmod 256)=a % 256:=by
  rw[Int.tmod_eq_emod_of_nonneg ha.1];exact i64w (by omega)
 go_enter Tryz.func286,Tryz.ntmps286;go_wp2;go_ret2
 exact⟨rfl,rfl⟩
structure DoC (M:Nat) (op a:Int) (av:Value) (w:World) (R:World->Prop):Prop where
 c0:op=0->Calls Tryz.prog 281 #[.pointer (some ⟨M,0,none⟩),.agg #[.int .u8 1,.int .i64 a,.int .i32 0,.int .i32 0,.slice none 0 0]] w λe w'=>e=.returned (.tuple #[])∧Hid (R w')
 c1:op=1->IntKind.i32.wrap a=a∧Calls Tryz.prog 277 #[.pointer (some ⟨M,0,none⟩),.int .i32 a] w λe w'=>e=.returned (.tuple #[])∧Hid (R w')
 c6:op=6->Calls Tryz.prog 283 #[.pointer (some ⟨M,0,none⟩),.int .i64 a] w λe w'=>e=.returned (.tuple #[])∧Hid (R w')
 c7:op=7->Calls Tryz.prog 284 #[.pointer (some ⟨M,0,none⟩),.int .i64 a] w λe w'=>e=.returned (.tuple #[])∧Hid (R w')
 cc:9<=op∧op<=14->Calls Tryz.prog 289 #[.pointer (some ⟨M,0,none⟩),.int .i64 op] w λe w'=>e=.returned (.tuple #[])∧Hid (R w')
 c15:op=15->(0<=a∧a<=1000000000)∧Calls Tryz.prog 285 #[.pointer (some ⟨M,0,none⟩),.int .i64 (a.tdiv 256),.int .i64 (a % 256)] w λe w'=>e=.returned (.tuple #[])∧Hid (R w')
 c16:op=16->Calls Tryz.prog 287 #[.pointer (some ⟨M,0,none⟩),.int .i64 a] w λe w'=>e=.returned (.tuple #[])∧Hid (R w')
 c17:op=17->Calls Tryz.prog 288 #[.pointer (some ⟨M,0,none⟩),av] w λe w'=>e=.returned (.tuple #[])∧Hid (R w')
 c18:op=18->(∃v,w.cell? ⟨M,5,none⟩=some v)∧w.frozen? ⟨M,5,none⟩=false∧Hid (R (w.setCell ⟨M,5,none⟩ (.int .i64 a)))
 c19:op=19->Calls Tryz.prog 224 #[.pointer (some ⟨M,0,none⟩)] w λe w'=>e=.returned (.tuple #[])∧Hid (R w')
 c20:op=20->Calls Tryz.prog 227 #[.pointer (some ⟨M,0,none⟩),.int .i64 4] w λe w'=>e=.returned (.tuple #[])∧Hid (R w')
def oneOp(op:Int):Prop:=op=0∨op=1∨op=6∨op=7∨op=9∨op=10∨op=11∨op=12∨op=13∨op=14∨op=15∨op=16∨op=17∨op=18∨op=19∨op=20
theorem do_call{lo:Nat}{w:World}{M Pb:Nat}{st:MSt}{B:List Nat}(R:World->Prop)(h:MM lo w M Pb st B)(hm:Mtr st)(hsb:stepB st=true){k:Nat}(hat:st.fr.at_=(k:Int))(hk:k<st.fr.code.length)(hkb:k<=1000000000)(hop:oneOp st.fr.code[k].op)
 (hL:∀w' B' av,MM lo w' M Pb (nextS (stepS st)) B'->AG B w w'->(∀b∈B',b∈B∨w.heap.size<=b)->(∃b n c,w'.cell? ⟨M,4,none⟩=some (.slice (some ⟨b,0,none⟩) n c)∧w'.cell? ⟨b,k*3+2,none⟩=some av)->DoC M st.fr.code[k].op st.fr.code[k].a av w' R):
 Calls Tryz.prog 225 #[.pointer (some ⟨M,0,none⟩)] w λe w'=>e=.returned (.tuple #[])∧R w':=by
 have HS:=hid (step_any h hm);rw[hsb]at HS;obtain⟨op,hope⟩:∃op,st.fr.code[k].op=op:=⟨_,rfl⟩;obtain⟨a,hae⟩:∃a,st.fr.code[k].a=a:=⟨_,rfl⟩;rw[hope]at hop;have HNX:Hid (∀w1 B1,AG B w w1->MM lo w1 M Pb (stepS st) B1->(∀b∈B1,b∈B∨w.heap.size<=b)->∃b n c:Nat,∃ap,∃an ac:Nat,(k:Int)<(n:Int)∧w1.cell? ⟨M,4,none⟩=some (.slice (some ⟨b,0,none⟩) n c)∧w1.cell? ⟨M,5,none⟩=some (.int .i64 (k:Int))∧w1.frozen? ⟨M,5,none⟩=false∧(w1.setCell ⟨M,5,none⟩ (.int .i64 ((k:Int)+1))).cell? ⟨b,k*3,none⟩=some (.int .i64 op)∧(w1.setCell ⟨M,5,none⟩ (.int .i64 ((k:Int)+1))).cell? ⟨b,k*3+1,none⟩=some (.int .i64 a)∧(w1.setCell ⟨M,5,none⟩ (.int .i64 ((k:Int)+1))).cell? ⟨b,k*3+2,none⟩=some (.slice ap an ac)∧Hid (DoC M op a (.slice ap an ac) (w1.setCell ⟨M,5,none⟩ (.int .i64 ((k:Int)+1))).drew R)):=by
  intro w1 B1 hag hM hB1;have hat':(stepS st).fr.at_=(k:Int):=by rw[stepS_ok hsb];exact hat
  have hcd:(stepS st).fr.code=st.fr.code:=by rw[stepS_ok hsb]
  obtain⟨b,n,c,ap,an,ac,hkn,e4,e5,f5,⟨c0,c1,c2⟩,hbB,hbw,hN,hA⟩:=hM.next (k:=k) hat' (by rw[hcd];exact hk);simp only[hcd,hope,hae]at c0 c1;have hA1:=(hag.trans hA hB1).then (Below.refl _ _).drew;have hcl:=hL _ _ (.slice ap an ac) (hN.keep (Below.refl _ _).drew) hA1 hB1 ⟨b,n,c,by rw[<-e4];show(w1.setCell ⟨M,5,none⟩ (.int .i64 ((k:Int)+1))).cell? _=_;exact setc (by omega),c2⟩;rw[hope,hae]at hcl;exact⟨b,n,c,ap,an,ac,by omega,e4,e5,f5,c0,c1,c2,hcl⟩
 clear h hsb hm hat hL hope hae;rcases hop with rfl|rfl|rfl|rfl|rfl|rfl|rfl|rfl|rfl|rfl|rfl|rfl|rfl|rfl|rfl|rfl;all_goals
  go_enter Tryz.func225,Tryz.ntmps225;go_wp2_with (first
   |(go_at_call 167;refine HS.out.mono ?_;rintro e w1 ⟨rfl,hag,B1,hM1,hB1⟩;obtain⟨b,n,c,ap,an,ac,hkn,e4,e5,f5,c0,c1,c2,HC⟩:=HNX.out w1 B1 hag hM1 hB1;clear hag hM1 hB1 HNX HS))
  go_region
  first
   |(have HCL:=hid (HC.out.c0 rfl);clear HC
     go_wp2_with (first|(go_at_call 281;refine HCL.out.mono ?_;rintro e w2 ⟨rfl,HRR⟩)))
   |(have HCL:=hid (HC.out.c1 rfl).2;have hwr:=(HC.out.c1 rfl).1;clear HC
     go_wp2_with (first|(go_at_call 277;refine HCL.out.mono ?_;rintro e w2 ⟨rfl,HRR⟩)))
   |(have HCL:=hid (HC.out.c6 rfl);clear HC
     go_wp2_with (first|(go_at_call 283;refine HCL.out.mono ?_;rintro e w2 ⟨rfl,HRR⟩)))
   |(have HCL:=hid (HC.out.c7 rfl);clear HC
     go_wp2_with (first|(go_at_call 284;refine HCL.out.mono ?_;rintro e w2 ⟨rfl,HRR⟩)))
   |(have HCL:=hid (HC.out.c15 rfl).2;have HPP:=hid (packParts_any a (w1.setCell ⟨M,5,none⟩ (.int .i64 ((k:Int)+1))).drew (HC.out.c15 rfl).1);clear HC
     go_wp2_with (first|(go_at_call 286;refine HPP.out.mono ?_;rintro e w2 ⟨rfl,rfl⟩)|(go_at_call 285;refine HCL.out.mono ?_;rintro e w3 ⟨rfl,HRR⟩)))
   |(have HCL:=hid (HC.out.c16 rfl);clear HC
     go_wp2_with (first|(go_at_call 287;refine HCL.out.mono ?_;rintro e w2 ⟨rfl,HRR⟩)))
   |(have HCL:=hid (HC.out.c17 rfl);clear HC
     go_wp2_with (first|(go_at_call 288;refine HCL.out.mono ?_;rintro e w2 ⟨rfl,HRR⟩)))
   |(obtain⟨⟨v5,k5⟩,g5,HRR⟩:=HC.out.c18 rfl;clear HC
     go_wp2)
   |(have HCL:=hid (HC.out.c19 rfl);clear HC
     go_wp2_with (first|(go_at_call 224;refine HCL.out.mono ?_;rintro e w2 ⟨rfl,HRR⟩)))
   |(have HCL:=hid (HC.out.c20 rfl);clear HC
     go_wp2_with (first|(go_at_call 227;refine HCL.out.mono ?_;rintro e w2 ⟨rfl,HRR⟩)))
   |(have HCL:=hid (HC.out.cc (by omega));clear HC
     go_wp2_with (first|(go_at_call 289;refine HCL.out.mono ?_;rintro e w2 ⟨rfl,HRR⟩)))
  refine bE ?_;exact⟨rfl,HRR.out⟩
end Go.Proofs.YtdpodpjdcfjfgaaGreatDoor
