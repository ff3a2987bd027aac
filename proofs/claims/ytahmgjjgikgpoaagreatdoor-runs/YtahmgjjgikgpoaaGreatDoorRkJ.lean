import Derived.Test.YtahmgjjgikgpoaaGreatDoorJzJ
set_option maxRecDepth 100000
set_option maxHeartbeats 8000000
namespace Go.Proofs.YtahmgjjgikgpoaaGreatDoor
open Go.RowKit Go.Sort
theorem packParts_any(a:Int)(w:World)(ha:0<=a∧a<=1000000000):Calls Tryz.prog 109 #[.int .i64 a] w λe w'=>e=.returned (.tuple #[.int .i64 (a.tdiv 256),.int .i64 (a % 256)])∧w'=w:=by
 have h1:IntKind.i64.wrap (a.tdiv 256)=a.tdiv 256:=i64w (by
  rw[Int.tdiv_eq_ediv_of_nonneg ha.1];omega)
 have h2:IntKind.i64.wrap (a.tmod 256)=a % 256:=by
  rw[Int.tmod_eq_emod_of_nonneg ha.1];exact i64w (by omega)
 go_enter Tryz.func109,Tryz.ntmps109;go_wp2;go_ret2
 exact⟨rfl,rfl⟩
structure DoC (M:Nat) (op a:Int) (av:Value) (w:World) (R:World->Prop):Prop where
 c0:op=0->Calls Tryz.prog 104 #[.pointer (some ⟨M,0,none⟩),.agg #[.int .u8 1,.int .i64 a,.int .i32 0,.int .i32 0,.slice none 0 0]] w λe w'=>e=.returned (.tuple #[])∧Hid (R w')
 c1:op=1->IntKind.i32.wrap a=a∧Calls Tryz.prog 100 #[.pointer (some ⟨M,0,none⟩),.int .i32 a] w λe w'=>e=.returned (.tuple #[])∧Hid (R w')
 c6:op=6->Calls Tryz.prog 106 #[.pointer (some ⟨M,0,none⟩),.int .i64 a] w λe w'=>e=.returned (.tuple #[])∧Hid (R w')
 c7:op=7->Calls Tryz.prog 107 #[.pointer (some ⟨M,0,none⟩),.int .i64 a] w λe w'=>e=.returned (.tuple #[])∧Hid (R w')
 cc:9<=op∧op<=14->Calls Tryz.prog 112 #[.pointer (some ⟨M,0,none⟩),.int .i64 op] w λe w'=>e=.returned (.tuple #[])∧Hid (R w')
 c15:op=15->(0<=a∧a<=1000000000)∧Calls Tryz.prog 108 #[.pointer (some ⟨M,0,none⟩),.int .i64 (a.tdiv 256),.int .i64 (a % 256)] w λe w'=>e=.returned (.tuple #[])∧Hid (R w')
 c16:op=16->Calls Tryz.prog 110 #[.pointer (some ⟨M,0,none⟩),.int .i64 a] w λe w'=>e=.returned (.tuple #[])∧Hid (R w')
 c17:op=17->Calls Tryz.prog 111 #[.pointer (some ⟨M,0,none⟩),av] w λe w'=>e=.returned (.tuple #[])∧Hid (R w')
 c18:op=18->(∃v,w.cell? ⟨M,5,none⟩=some v)∧w.frozen? ⟨M,5,none⟩=false∧Hid (R (w.setCell ⟨M,5,none⟩ (.int .i64 a)))
 c19:op=19->Calls Tryz.prog 76 #[.pointer (some ⟨M,0,none⟩)] w λe w'=>e=.returned (.tuple #[])∧Hid (R w')
 c20:op=20->Calls Tryz.prog 79 #[.pointer (some ⟨M,0,none⟩),.int .i64 4] w λe w'=>e=.returned (.tuple #[])∧Hid (R w')
def oneOp(op:Int):Prop:=op=0∨op=1∨op=6∨op=7∨op=9∨op=10∨op=11∨op=12∨op=13∨op=14∨op=15∨op=16∨op=17∨op=18∨op=19∨op=20
theorem do_call{lo:Nat}{w:World}{M Pb:Nat}{st:MSt}{B:List Nat}(R:World->Prop)(h:MM lo w M Pb st B)(hm:Mtr st)(hsb:stepM st=true){k:Nat}(hat:st.fr.at_=(k:Int))(hk:k<st.fr.code.length)(hkb:k<=1000000000)(hop:oneOp st.fr.code[k].op)
 (hL:∀w' B' av,MM lo w' M Pb (nextS (stepS st)) B'->AG B w w'->(∀b∈B',b∈B∨w.heap.size<=b)->(∃b n c,w'.cell? ⟨M,4,none⟩=some (.slice (some ⟨b,0,none⟩) n c)∧w'.cell? ⟨b,k*3+2,none⟩=some av)->DoC M st.fr.code[k].op st.fr.code[k].a av w' R):
 Calls Tryz.prog 77 #[.pointer (some ⟨M,0,none⟩)] w λe w'=>e=.returned (.tuple #[])∧R w':=by
 have HS:=hid (step_any h hm);rw[hsb]at HS;obtain⟨op,hope⟩:∃op,st.fr.code[k].op=op:=⟨_,rfl⟩;obtain⟨a,hae⟩:∃a,st.fr.code[k].a=a:=⟨_,rfl⟩;rw[hope]at hop;have HNX:Hid (∀w1 B1,AG B w w1->MM lo w1 M Pb (stepS st) B1->(∀b∈B1,b∈B∨w.heap.size<=b)->∃b n c:Nat,∃ap,∃an ac:Nat,(k:Int)<(n:Int)∧w1.cell? ⟨M,4,none⟩=some (.slice (some ⟨b,0,none⟩) n c)∧w1.cell? ⟨M,5,none⟩=some (.int .i64 (k:Int))∧w1.frozen? ⟨M,5,none⟩=false∧(w1.setCell ⟨M,5,none⟩ (.int .i64 ((k:Int)+1))).cell? ⟨b,k*3,none⟩=some (.int .i64 op)∧(w1.setCell ⟨M,5,none⟩ (.int .i64 ((k:Int)+1))).cell? ⟨b,k*3+1,none⟩=some (.int .i64 a)∧(w1.setCell ⟨M,5,none⟩ (.int .i64 ((k:Int)+1))).cell? ⟨b,k*3+2,none⟩=some (.slice ap an ac)∧Hid (DoC M op a (.slice ap an ac) (w1.setCell ⟨M,5,none⟩ (.int .i64 ((k:Int)+1))).drew R)):=by
  intro w1 B1 hag hM hB1;have hat':(stepS st).fr.at_=(k:Int):=by rw[stepS_ok hsb];exact hat
  have hcd:(stepS st).fr.code=st.fr.code:=by rw[stepS_ok hsb]
  obtain⟨b,n,c,ap,an,ac,hkn,e4,e5,f5,⟨c0,c1,c2⟩,hbB,hbw,hN,hA⟩:=hM.next (k:=k) hat' (by rw[hcd];exact hk);simp only[hcd,hope,hae]at c0 c1;have hA1:=(hag.trans hA hB1).then (Below.refl _ _).drew;have hcl:=hL _ _ (.slice ap an ac) (hN.keep (Below.refl _ _).drew) hA1 hB1 ⟨b,n,c,by rw[<-e4];show(w1.setCell ⟨M,5,none⟩ (.int .i64 ((k:Int)+1))).cell? _=_;exact setc (by omega),c2⟩;rw[hope,hae]at hcl;exact⟨b,n,c,ap,an,ac,by omega,e4,e5,f5,c0,c1,c2,hcl⟩
 clear h hsb hm hat hL hope hae;rcases hop with rfl|rfl|rfl|rfl|rfl|rfl|rfl|rfl|rfl|rfl|rfl|rfl|rfl|rfl|rfl|rfl;all_goals
  go_enter Tryz.func77,Tryz.ntmps77;go_wp2_with (first
   |(go_at_call 55;refine HS.out.mono ?_;rintro e w1 ⟨rfl,hag,B1,hM1,hB1⟩;obtain⟨b,n,c,ap,an,ac,hkn,e4,e5,f5,c0,c1,c2,HC⟩:=HNX.out w1 B1 hag hM1 hB1;clear hag hM1 hB1 HNX HS))
  go_region
  first
   |(have HCL:=hid (HC.out.c0 rfl);clear HC
     go_wp2_with (first|(go_at_call 104;refine HCL.out.mono ?_;rintro e w2 ⟨rfl,HRR⟩)))
   |(have HCL:=hid (HC.out.c1 rfl).2;have hwr:=(HC.out.c1 rfl).1;clear HC
     go_wp2_with (first|(go_at_call 100;refine HCL.out.mono ?_;rintro e w2 ⟨rfl,HRR⟩)))
   |(have HCL:=hid (HC.out.c6 rfl);clear HC
     go_wp2_with (first|(go_at_call 106;refine HCL.out.mono ?_;rintro e w2 ⟨rfl,HRR⟩)))
   |(have HCL:=hid (HC.out.c7 rfl);clear HC
     go_wp2_with (first|(go_at_call 107;refine HCL.out.mono ?_;rintro e w2 ⟨rfl,HRR⟩)))
   |(have HCL:=hid (HC.out.c15 rfl).2;have HPP:=hid (packParts_any a (w1.setCell ⟨M,5,none⟩ (.int .i64 ((k:Int)+1))).drew (HC.out.c15 rfl).1);clear HC
     go_wp2_with (first|(go_at_call 109;refine HPP.out.mono ?_;rintro e w2 ⟨rfl,rfl⟩)|(go_at_call 108;refine HCL.out.mono ?_;rintro e w3 ⟨rfl,HRR⟩)))
   |(have HCL:=hid (HC.out.c16 rfl);clear HC
     go_wp2_with (first|(go_at_call 110;refine HCL.out.mono ?_;rintro e w2 ⟨rfl,HRR⟩)))
   |(have HCL:=hid (HC.out.c17 rfl);clear HC
     go_wp2_with (first|(go_at_call 111;refine HCL.out.mono ?_;rintro e w2 ⟨rfl,HRR⟩)))
   |(obtain⟨⟨v5,k5⟩,g5,HRR⟩:=HC.out.c18 rfl;clear HC
     go_wp2)
   |(have HCL:=hid (HC.out.c19 rfl);clear HC
     go_wp2_with (first|(go_at_call 76;refine HCL.out.mono ?_;rintro e w2 ⟨rfl,HRR⟩)))
   |(have HCL:=hid (HC.out.c20 rfl);clear HC
     go_wp2_with (first|(go_at_call 79;refine HCL.out.mono ?_;rintro e w2 ⟨rfl,HRR⟩)))
   |(have HCL:=hid (HC.out.cc (by omega));clear HC
     go_wp2_with (first|(go_at_call 112;refine HCL.out.mono ?_;rintro e w2 ⟨rfl,HRR⟩)))
  refine bE ?_;exact⟨rfl,HRR.out⟩
def NxF(lo M Pb:Nat)(B:List Nat)(w:World)(st:MSt)(k:Nat)(w1:World):Prop:=∃b n c:Nat,∃B1,(k:Int)<(n:Int)∧w1.cell? ⟨M,4,none⟩=some (.slice (some ⟨b,0,none⟩) n c)∧w1.cell? ⟨M,5,none⟩=some (.int .i64 (k:Int))∧w1.frozen? ⟨M,5,none⟩=false∧(w1.setCell ⟨M,5,none⟩ (.int .i64 ((k:Int)+1))).cell? ⟨b,k*3,none⟩=some (.int .i64 ((st.fr.code[k]?).getD ⟨0,0,[]⟩).op)∧(w1.setCell ⟨M,5,none⟩ (.int .i64 ((k:Int)+1))).cell? ⟨b,k*3+1,none⟩=some (.int .i64 ((st.fr.code[k]?).getD ⟨0,0,[]⟩).a)∧b∉B1∧b<(w1.setCell ⟨M,5,none⟩ (.int .i64 ((k:Int)+1))).drew.heap.size∧MM lo (w1.setCell ⟨M,5,none⟩ (.int .i64 ((k:Int)+1))).drew M Pb (nextS (stepS st)) B1∧AG B w (w1.setCell ⟨M,5,none⟩ (.int .i64 ((k:Int)+1))).drew∧∀b∈B1,b∈B∨w.heap.size<=b
theorem step_next{lo:Nat}{w:World}{M Pb:Nat}{st:MSt}{B:List Nat}(h:MM lo w M Pb st B)(hm:Mtr st)(hsb:stepM st=true){k:Nat}(hat:st.fr.at_=(k:Int))(hk:k<st.fr.code.length):
 Calls Tryz.prog 55 #[.pointer (some ⟨M,0,none⟩)] w λe w1=>e=.returned (.bool true)∧NxF lo M Pb B w st k w1:=by
 refine(step_any h hm).mono λe w1 hr=>?_;have he:=hr.1;obtain⟨-,hag,B1,hM,hB1⟩:=hr;rw[hsb]at he;have hat':(stepS st).fr.at_=(k:Int):=by rw[stepS_ok hsb];exact hat
 have hcd:(stepS st).fr.code=st.fr.code:=by rw[stepS_ok hsb]
 obtain⟨b,n,c,ap,an,ac,hkn,e4,e5,f5,⟨c0,c1,c2⟩,hbB,hbw,hN,hA⟩:=hM.next (k:=k) hat' (by rw[hcd];exact hk);simp only[hcd]at c0 c1;refine⟨he,b,n,c,B1,by omega,e4,e5,f5,?_,?_,hbB,by simpa using hbw,hN.keep (Below.refl _ _).drew,(hag.trans hA hB1).then (Below.refl _ _).drew,hB1⟩
 ·rw[List.getElem?_eq_getElem hk];exact c0
 ·rw[List.getElem?_eq_getElem hk];exact c1
theorem do2_any{lo:Nat}{w:World}{M Pb:Nat}{st:MSt}{B:List Nat}(h:MM lo w M Pb st B)(hm:Mtr st)(hsb:stepM st=true){k:Nat}(hat:st.fr.at_=(k:Int))(hk:k<st.fr.code.length)(hkb:k<=1000000000)(hop:st.fr.code[k].op=2)(hl:st.stack.length<=1000000000){j:Nat}(hj:st.fr.code[k].a=(j:Int))(hjl:j<st.stack.length):
 Calls Tryz.prog 77 #[.pointer (some ⟨M,0,none⟩)] w λe w'=>MRes lo M Pb B w (pushS (st.stack[st.stack.length-1-j]'(by omega)) (nextS (stepS st))) (.tuple #[]) e w':=by
 have HS:=hid (step_next h hm hsb hat hk);have hstk:(nextS (stepS st)).stack=st.stack:=by rw[stepS_ok hsb];rfl
 obtain⟨x,hx⟩:∃x,st.stack[st.stack.length-1-j]'(by omega)=x:=⟨_,rfl⟩;rw[hx];have HX:Hid (∀w1,NxF lo M Pb B w st k w1->∃b n c sg:Nat,(k:Int)<(n:Int)∧w1.cell? ⟨M,4,none⟩=some (.slice (some ⟨b,0,none⟩) n c)∧w1.cell? ⟨M,5,none⟩=some (.int .i64 (k:Int))∧w1.frozen? ⟨M,5,none⟩=false∧(w1.setCell ⟨M,5,none⟩ (.int .i64 ((k:Int)+1))).cell? ⟨b,k*3,none⟩=some (.int .i64 2)∧(w1.setCell ⟨M,5,none⟩ (.int .i64 ((k:Int)+1))).cell? ⟨b,k*3+1,none⟩=some (.int .i64 (j:Int))∧Hid (Calls Tryz.prog 99 #[.pointer (some ⟨M,0,none⟩),.int .i64 (j:Int)] (w1.setCell ⟨M,5,none⟩ (.int .i64 ((k:Int)+1))).drew λe w'=>e=.returned (.pointer (some ⟨sg,st.stack.length-1-j,none⟩))∧w'=(w1.setCell ⟨M,5,none⟩ (.int .i64 ((k:Int)+1))).drew.drew)∧(w1.setCell ⟨M,5,none⟩ (.int .i64 ((k:Int)+1))).cell? ⟨sg,st.stack.length-1-j,none⟩=some (.int .i32 x)∧Hid (Calls Tryz.prog 100 #[.pointer (some ⟨M,0,none⟩),.int .i32 x] (w1.setCell ⟨M,5,none⟩ (.int .i64 ((k:Int)+1))).drew.drew λe w'=>e=.returned (.tuple #[])∧Hid (MRes lo M Pb B w (pushS x (nextS (stepS st))) (.tuple #[]) (.returned (.tuple #[])) w'))):=by
  rintro w1 ⟨b,n,c,B1,hkn,e4,e5,f5,c0,c1,hbB,hbw,hN,hA,hB1⟩;rw[List.getElem?_eq_getElem hk,Option.getD_some]at c0 c1;rw[hop]at c0;rw[hj]at c1;have hN2:=hN.keep (Below.refl _ _).drew;obtain⟨cs,ds,cv,sv,kv,dv,tv,hN,hBe⟩:=hN;obtain⟨sg,sc,rfl,-,hsc⟩:=stack_slice hN.sk (by rw[hstk];omega);refine⟨b,n,c,sg,hkn,e4,e5,f5,c0,c1,?_,?_,?_⟩
  ·have:=top_any j (hN.m.at 2 rfl) (by rw[hstk];omega) (by rw[hstk];omega);rw[hstk]at this;exact this
  ·have:=hsc (st.stack.length-1-j) (by rw[hstk];omega);rw[hstk]at this;refine this.trans ?_;rw[<-hx];simp[rfC]
  ·refine(push_any x hN2 (by rw[hstk];omega)).mono λe w' hr=>?_;have he:=hr.1;exact⟨he,hr.of (hA.then (Below.refl _ _).drew) hB1 rfl⟩
 clear h hsb hm hat hx;go_enter Tryz.func77,Tryz.ntmps77;go_wp2_with (first
  |(go_at_call 55;refine HS.out.mono ?_;rintro e w1 ⟨rfl,hx⟩;obtain⟨b,n,c,sg,hkn,e4,e5,f5,c0,c1,HT,xs,HP⟩:=HX.out w1 hx;clear hx HX HS))
 go_region
 go_wp2_with (first
  |(go_at_call 99;refine HT.out.mono ?_;rintro e w2 ⟨rfl,rfl⟩)
  |(go_at_call 100;refine HP.out.mono ?_;rintro e w3 ⟨rfl,HRR⟩))
 refine bE ?_;exact HRR.out
theorem do34_any{lo:Nat}{w:World}{M Pb:Nat}{st:MSt}{B:List Nat}(h:MM lo w M Pb st B)(hm:Mtr st)(hsb:stepM st=true){k:Nat}(hat:st.fr.at_=(k:Int))(hk:k<st.fr.code.length)(hkb:k<=1000000000)(hl:st.stack.length<=1000000000)(hcl:st.cells.length<=1000000000)(res:MSt)(hop:(st.fr.code[k].op=3∧∃s x f,st.stack=s++[x,f]∧res=putS ⟨2,0,f,x,[]⟩ (dropS 1 (dropS 1 (nextS (stepS st)))))∨(st.fr.code[k].op=4∧∃s x,∃j:Nat,st.stack=s++[x]∧st.fr.code[k].a=(j:Int)∧j<=s.length∧res=pushS x (dropS j (dropS 1 (nextS (stepS st)))))):
 Calls Tryz.prog 77 #[.pointer (some ⟨M,0,none⟩)] w λe w'=>MRes lo M Pb B w res (.tuple #[]) e w':=by
 have HS:=hid (step_next h hm hsb hat hk);have hstk:(nextS (stepS st)).stack=st.stack:=by rw[stepS_ok hsb];rfl
 have hcls:(nextS (stepS st)).cells=st.cells:=by rw[stepS_ok hsb];rfl
 have hmt:Mtr (nextS (stepS st)):=by
  rw[stepS_ok hsb];have h1:1<=st.sm-st.su:=by simpa[stepM]using hsb
  have:=hm.su;exact⟨by simp only[nextS];omega,hm.sm,hm.mu,hm.mm⟩
 rcases hop with⟨hop,s,x,f,hs,hres⟩|⟨hop,s,x,j,hs,hj,hjl,hres⟩
 ·have HX:Hid (∀w1,NxF lo M Pb B w st k w1->∃b n c:Nat,(k:Int)<(n:Int)∧w1.cell? ⟨M,4,none⟩=some (.slice (some ⟨b,0,none⟩) n c)∧w1.cell? ⟨M,5,none⟩=some (.int .i64 (k:Int))∧w1.frozen? ⟨M,5,none⟩=false∧(w1.setCell ⟨M,5,none⟩ (.int .i64 ((k:Int)+1))).cell? ⟨b,k*3,none⟩=some (.int .i64 3)∧Hid (Calls Tryz.prog 105 #[.pointer (some ⟨M,0,none⟩)] (w1.setCell ⟨M,5,none⟩ (.int .i64 ((k:Int)+1))).drew λe w2=>e=.returned (.int .i32 f)∧Hid (Calls Tryz.prog 105 #[.pointer (some ⟨M,0,none⟩)] w2 λe w3=>e=.returned (.int .i32 x)∧Hid (Calls Tryz.prog 104 #[.pointer (some ⟨M,0,none⟩),.agg #[.int .u8 2,.int .i64 0,.int .i32 f,.int .i32 x,.slice none 0 0]] w3 λe w4=>e=.returned (.tuple #[])∧Hid (MRes lo M Pb B w res (.tuple #[]) (.returned (.tuple #[])) w4))))):=by
   rintro w1 ⟨b,n,c,B1,hkn,e4,e5,f5,c0,c1,hbB,hbw,hN,hA,hB1⟩;rw[List.getElem?_eq_getElem hk,Option.getD_some,hop]at c0;refine⟨b,n,c,hkn,e4,e5,f5,c0,?_⟩;refine(pop_any hN (s:=s++[x]) (x:=f) (by rw[hstk,hs];simp) (by rw[hstk];omega)).mono λe w2 hr2=>?_;have he2:=hr2.1;obtain⟨-,hA2,B2,hM2,hB2⟩:=hr2;have hA2':=hA.trans hA2 hB1;have hB2':∀b∈B2,b∈B∨w.heap.size<=b:=λb hb=>(hB2 b hb).elim (hB1 b) λh1=>Or.inr (Nat.le_trans hA.size h1);have hs2:(dropS 1 (nextS (stepS st))).stack=s++[x]:=by
    show(nextS (stepS st)).stack.take _=_;rw[hstk,hs,show s++[x,f]=(s++[x])++[f] by simp];exact List.take_left' (by simp)
   have hsl:st.stack.length=s.length+2:=by rw[hs];simp
   refine⟨he2,(pop_any hM2 (s:=s) (x:=x) hs2 (by rw[hs2];simp;omega)).mono λe w3 hr3=>?_⟩;have he3:=hr3.1;obtain⟨-,hA3,B3,hM3,hB3⟩:=hr3;have hA3':=hA2'.trans hA3 hB2';have hB3':∀b∈B3,b∈B∨w.heap.size<=b:=λb hb=>(hB3 b hb).elim (hB2' b) λh1=>Or.inr (Nat.le_trans hA2'.size h1);have hs3:(dropS 1 (dropS 1 (nextS (stepS st)))).stack=s:=by
    show(dropS 1 (nextS (stepS st))).stack.take _=_;rw[hs2];simp
   refine⟨he3,(put_any2 ⟨2,0,f,x,[]⟩ (.slice none 0 0) ⟨none,0,rfl,λi hi=>absurd hi (by simp)⟩ ⟨_,_,_,rfl⟩ hM3 ⟨hmt.su,hmt.sm,hmt.mu,hmt.mm⟩ (by rw[hs3];omega) (by show(nextS (stepS st)).cells.length<=_;rw[hcls];exact hcl)).mono λe w4 hr4=>?_⟩;have he4:=hr4.1;rw[<-hres]at hr4;exact⟨he4,hr4.of hA3' hB3' rfl⟩
  clear h hsb hm hat hmt hres;go_enter Tryz.func77,Tryz.ntmps77;go_wp2_with (first
   |(go_at_call 55;refine HS.out.mono ?_;rintro e w1 ⟨rfl,hx⟩;obtain⟨b,n,c,hkn,e4,e5,f5,c0,HP⟩:=HX.out w1 hx;clear hx HX HS))
  go_region
  go_wp2_with (first
   |(go_at_call 105;first|(refine HQ.out.mono ?_;rintro e w3 ⟨rfl,HU⟩)|(refine HP.out.mono ?_;rintro e w2 ⟨rfl,HQ⟩))
   |(go_at_call 104;refine HU.out.mono ?_;rintro e w4 ⟨rfl,HRR⟩))
  refine bE ?_;exact HRR.out
 ·have HX:Hid (∀w1,NxF lo M Pb B w st k w1->∃b n c:Nat,(k:Int)<(n:Int)∧w1.cell? ⟨M,4,none⟩=some (.slice (some ⟨b,0,none⟩) n c)∧w1.cell? ⟨M,5,none⟩=some (.int .i64 (k:Int))∧w1.frozen? ⟨M,5,none⟩=false∧(w1.setCell ⟨M,5,none⟩ (.int .i64 ((k:Int)+1))).cell? ⟨b,k*3,none⟩=some (.int .i64 4)∧Hid (Calls Tryz.prog 105 #[.pointer (some ⟨M,0,none⟩)] (w1.setCell ⟨M,5,none⟩ (.int .i64 ((k:Int)+1))).drew λe w2=>e=.returned (.int .i32 x)∧w2.cell? ⟨b,k*3+1,none⟩=some (.int .i64 (j:Int))∧Hid (Calls Tryz.prog 106 #[.pointer (some ⟨M,0,none⟩),.int .i64 (j:Int)] w2 λe w3=>e=.returned (.tuple #[])∧Hid (Calls Tryz.prog 100 #[.pointer (some ⟨M,0,none⟩),.int .i32 x] w3 λe w4=>e=.returned (.tuple #[])∧Hid (MRes lo M Pb B w res (.tuple #[]) (.returned (.tuple #[])) w4))))):=by
   rintro w1 ⟨b,n,c,B1,hkn,e4,e5,f5,c0,c1,hbB,hbw,hN,hA,hB1⟩;rw[List.getElem?_eq_getElem hk,Option.getD_some]at c0 c1;rw[hop]at c0;rw[hj]at c1;refine⟨b,n,c,hkn,e4,e5,f5,c0,?_⟩;refine(pop_any hN (s:=s) (x:=x) (by rw[hstk,hs]) (by rw[hstk];omega)).mono λe w2 hr2=>?_;have he2:=hr2.1;obtain⟨-,hA2,B2,hM2,hB2⟩:=hr2;have hA2':=hA.trans hA2 hB1;have hB2':∀b∈B2,b∈B∨w.heap.size<=b:=λb hb=>(hB2 b hb).elim (hB1 b) λh1=>Or.inr (Nat.le_trans hA.size h1);have hs2:(dropS 1 (nextS (stepS st))).stack=s:=by simp[dropS,hstk,hs]
   have hsl:st.stack.length=s.length+1:=by rw[hs];simp
   refine⟨he2,cell_same (hA2.block b hbw hbB) c1,(drop_any j hM2 (by rw[hs2];exact hjl) (by rw[hs2];omega)).mono λe w3 hr3=>?_⟩;have he3:=hr3.1;obtain⟨-,hA3,B3,hM3,hB3⟩:=hr3;have hA3':=hA2'.trans hA3 hB2';have hB3':∀b∈B3,b∈B∨w.heap.size<=b:=λb hb=>(hB3 b hb).elim (hB2' b) λh1=>Or.inr (Nat.le_trans hA2'.size h1);refine⟨he3,(push_any x hM3 (by show((dropS 1 (nextS (stepS st))).stack.take _).length<=_;rw[hs2];simp;omega)).mono λe w4 hr4=>?_⟩;have he4:=hr4.1;rw[<-hres]at hr4;exact⟨he4,hr4.of hA3' hB3' rfl⟩
  clear h hsb hm hat hmt hres;go_enter Tryz.func77,Tryz.ntmps77;go_wp2_with (first
   |(go_at_call 55;refine HS.out.mono ?_;rintro e w1 ⟨rfl,hx⟩;obtain⟨b,n,c,hkn,e4,e5,f5,c0,HP⟩:=HX.out w1 hx;clear hx HX HS))
  go_region
  go_wp2_with (first
   |(go_at_call 105;refine HP.out.mono ?_;rintro e w2 ⟨rfl,y1,HQ⟩)
   |(go_at_call 106;refine HQ.out.mono ?_;rintro e w3 ⟨rfl,HU⟩)
   |(go_at_call 100;refine HU.out.mono ?_;rintro e w4 ⟨rfl,HRR⟩))
  refine bE ?_;exact HRR.out
end Go.Proofs.YtahmgjjgikgpoaaGreatDoor
