import Derived.Test.YtlccndplhfcknaaGreatDoorJeJ
set_option maxRecDepth 100000
set_option maxHeartbeats 4000000
namespace Go.Proofs.YtlccndplhfcknaaGreatDoor
open Go.RowKit Go.Sort
structure R2 (w:World) (b:Nat) (x y:Value):Prop where
 c0:w.cell? ⟨b,0,none⟩=some x
 c1:w.cell? ⟨b,1,none⟩=some y
 f:∀j,w.frozen? ⟨b,j,none⟩=false
theorem R2.lt{w:World}{b:Nat}{x y:Value}(h:R2 w b x y):b<w.heap.size:=block_lt_of_cell h.c0
theorem R2.of_block{w w':World}{b:Nat}{x y:Value}(h:R2 w b x y)(e:w'.heap[b]?=w.heap[b]?):R2 w' b x y:=by
 have hc:∀j,w'.cell? ⟨b,j,none⟩=w.cell? ⟨b,j,none⟩:=λj=>World.cell?_of_block (a:=⟨b,j,none⟩) e;exact⟨by rw[hc];exact h.c0,by rw[hc];exact h.c1,λj=>by rw[World.frozen?_of_block (a:=⟨b,j,none⟩) e];exact h.f j⟩
theorem R2.keep{w w':World}{b:Nat}{x y:Value}(h:R2 w b x y)(hb:Below w.heap.size w w'):R2 w' b x y:=h.of_block (hb.block b h.lt)
theorem R2.drew{w:World}{b:Nat}{x y:Value}(h:R2 w b x y):R2 w.drew b x y:=⟨h.c0,h.c1,h.f⟩
theorem R2.new(w:World)(x y:Value)(t:TypeId):R2 (w.alloc (.cells #[x,y] t)) w.heap.size x y:=⟨alloc_cell w #[x,y] t 0 _ rfl,alloc_cell w #[x,y] t 1 _ rfl,λj=>by simp⟩
theorem R2.put{w:World}{b:Nat}{x y:Value}(h:R2 w b x y)(u v:Value):R2 ((w.setCell ⟨b,0,none⟩ u).setCell ⟨b,1,none⟩ v) b u v:=
 ⟨by rw[setc (by omega)];exact World.cell?_setCell_same _ _ _ h.c0,World.cell?_setCell_same _ _ _ (by rw[setc (by omega)];exact h.c1),λj=>by simp only[World.frozen?_setCell];exact h.f j⟩
def zProg:Value:=.agg #[.slice none 0 0,.int .i64 0]
def lnkV(adr:Nat->Addr)(x:Nat×Nat):Value:=if x.1=17∨x.1=18 then errE (adr x.1) else errF (adr x.1) 0 (x.2:Int)
def ObjRes(adr:Nat->Addr)(Os:List LObj)(entry:ByteArray)(w:World)(e:Ending)(w':World):Prop:=Below w.heap.size w w'∧match lnkE Os entry with
 |some x=>e=.returned (.tuple #[zProg,lnkV adr x])
 |none=>∃p n c,e=.returned (.tuple #[.agg #[.slice p n c,.int .i64 (imgE Os entry)],.nilIface])∧MGAt 0 w' (.slice p n c) (img Os)
theorem tw_dp{Os:List LObj}(h:∀O∈Os,SoundO O):fstF (twB Os) Os 0=fstF (dpB Os) Os 0:=fstF_congr λi hi=>by
 rw[Nat.zero_add];exact(dp_tw hi (h _ (List.getElem_mem _))).symm
theorem wi_eq{adr:Nat->Addr}{Os:List LObj}:wiV adr (exK Os Os.length) Os=match fstF (λ_=>miB Os) Os 0 with
 |some k=>errF (adr 15) 0 (k:Int)
 |none=>errK adr 16 (fstF (λ_=>arB2 Os) Os 0):=by
 unfold wiV;rw[show(λ_:Nat=>miX (exK Os Os.length))=λ_=>miB Os from funext λ_=>funext λO=>mi_same Os O,show(λ_:Nat=>arX (exK Os Os.length))=λ_=>arB2 Os from funext λ_=>funext λO=>ar_same Os O];rfl
theorem objects_any(Os:List LObj)(v:Value)(entry:ByteArray)(w:World)(adr:Nat->Addr)(h:ObjsAt w v Os)(hZ:Szd Os)(he:entry.size<=maxLen)(hT:TabAt w)(hS:SentAt w adr):
 Calls Tryz.prog 13 #[v,.string entry] w λe w'=>ObjRes adr Os entry w e w':=by
 have HO:=hid (λX (hb:Below w.heap.size w X)=>h.keep hb);have HT:=hid (λX (hb:Below w.heap.size w X)=>hT.keep hb);have HS:=hid (λX (hb:Below w.heap.size w X)=>hS.keep hb);obtain⟨p,cap,rfl,hs,-⟩:=id h;unfold short at hs;have HZ:=hid hZ;clear h hT hS hZ;have hb0:Below w.heap.size w (w.alloc (.cells #[.slice none 0 0,.int .i64 0] 55)):=(Below.refl _ _).alloc (Nat.le_refl _) _;have hr0:R2 (w.alloc (.cells #[.slice none 0 0,.int .i64 0] 55)) w.heap.size (.slice none 0 0) (.int .i64 0):=R2.new ..;have HB0:=hid hb0;have HR0:=hid hr0;have hg1:1<w.heap.size:=block_lt_of_cell ((HS.out w (Below.refl _ _)).c 17 (by omega));have hg2:0<w.heap.size:=block_lt_of_cell ((HS.out w (Below.refl _ _)).c 18 (by omega));clear hb0 hr0;by_cases h8:8<Os.length
 ·have hL:lnkE Os entry=some (18,0):=by unfold lnkE;rw[if_pos h8]
  have HL:=hid hL;have i8:(8:Int)<(Os.length:Int):=by omega
  have hc:=(HS.out _ HB0.out).c 18 (by omega);simp only[errE,kNum,List.getD_cons_succ,List.getD_cons_zero]at hc;go_enter Tryz.func13,Tryz.ntmps13;go_wp2;go_region
  all_goals(try go_wp2)
  all_goals
   obtain⟨q0,q1,-⟩:=HR0.out;have d0:(w.alloc (.cells #[.slice none 0 0,.int .i64 0] 55)).drew.cell? ⟨w.heap.size,0,none⟩=_:=q0;have d1:(w.alloc (.cells #[.slice none 0 0,.int .i64 0] 55)).drew.cell? ⟨w.heap.size,1,none⟩=_:=q1;refine bodyPost_ret (v:=.tuple #[zProg,errE (adr 18)]) (by simp[results,Tryz.results13,go_sem,d0,d1,zProg,errE]) rfl ?_;refine⟨HB0.out.drew,?_⟩;rw[HL.out];rfl
 ·have hF:Few Os:=⟨by omega,HZ.out⟩;have HF:=hid hF;have i8:¬(8:Int)<(Os.length:Int):=by omega
  have hL0:=lnk_few (entry:=entry) h8;have HU:Hid (∀X,Below w.heap.size w X->Calls Tryz.prog 22 #[.slice p Os.length cap] X λe w'=>e=.returned (errK adr 0 (fstF (λ_ O=>!okO O) Os 0))∧Below X.heap.size X w'):=λX hb=>unsound_any Os _ X adr (HO.out X hb) (HT.out X hb) (HS.out X hb);clear hF;cases hB:fstF (λ_ O=>!okO O) Os 0 with
  |some k=>
   have HL:Hid (lnkE Os entry=some (0,k)):=by show _=_;rw[hL0,hB];rfl
   rw[hB]at HU;simp only[errK,errF]at HU;clear hL0 hB;go_enter Tryz.func13,Tryz.ntmps13;go_wp2_with (first
    |(go_at_call 22;refine(HU.out _ HB0.out).mono ?_;rintro e w1 ⟨rfl,hb1⟩;have HB1:=hid (HB0.out.trans (hb1.mono (by simp)):Below w.heap.size w w1);have hr1:=HR0.out.keep hb1;have HR1:=hid hr1;obtain⟨s0,s1,sf⟩:=hr1;have sf0:=sf 0;have sf1:=sf 1;clear hb1 sf))
   obtain⟨q0,q1,-⟩:=HR1.out.put (.slice none 0 0) (.int .i64 0);refine bodyPost_ret (v:=.tuple #[zProg,errF (adr 0) 0 (k:Int)]) (by simp[results,Tryz.results13,go_sem,q0,q1,zProg,errF]) rfl ?_;refine⟨(HB1.out.setCell (Nat.le_refl _) _).setCell (Nat.le_refl _) _,?_⟩;rw[HL.out];rfl
  |none=>
   have hSO:=all_sound hB;have HSO:=hid hSO;rw[hB]at HU hL0;simp only[errK]at HU;rw[tw_dp hSO]at hL0;have HX0:=hid (λX (hb:Below w.heap.size w X)=>exportsOf_any Os _ X adr (HO.out X hb) HF.out (HS.out X hb));clear hSO hB;cases hD:fstF (dpB Os) Os 0 with
   |some k=>
    have HL:Hid (lnkE Os entry=some (14,k)):=by show _=_;rw[hL0,hD];rfl
    have HX:Hid (∀X,Below w.heap.size w X->Calls Tryz.prog 23 #[.slice p Os.length cap] X λe w'=>Below X.heap.size X w'∧e=.returned (.tuple #[.map none,errF (adr 14) 0 (k:Int)])):=λX hb=>(HX0.out X hb).mono λe w' hr=>by
     unfold ExpRes at hr;rw[hD]at hr;exact hr
    simp only[errF]at HX;clear hL0 hD HX0;go_enter Tryz.func13,Tryz.ntmps13;go_wp2_with (first
     |(go_at_call 22;refine(HU.out _ HB0.out).mono ?_;rintro e w1 ⟨rfl,hb1⟩;have HB1:=hid (HB0.out.trans (hb1.mono (by simp)):Below w.heap.size w w1);have hr1:=HR0.out.keep hb1;have HR1:=hid hr1;obtain⟨s0,s1,sf⟩:=hr1;have sf0:=sf 0;have sf1:=sf 1;clear hb1 sf)
     |(go_at_call 23;refine(HX.out _ HB1.out).mono ?_;rintro e w2 ⟨hb2,rfl⟩;have HB2:=hid (HB1.out.trans (hb2.mono HB1.out.size):Below w.heap.size w w2);have hr2:=HR1.out.keep hb2;have HR2:=hid hr2;obtain⟨u0,u1,uf⟩:=hr2;have uf0:=uf 0;have uf1:=uf 1;clear hb2 uf))
    obtain⟨q0,q1,-⟩:=HR2.out.put (.slice none 0 0) (.int .i64 0);refine bodyPost_ret (v:=.tuple #[zProg,errF (adr 14) 0 (k:Int)]) (by simp[results,Tryz.results13,go_sem,q0,q1,zProg,errF]) rfl ?_;refine⟨(HB2.out.setCell (Nat.le_refl _) _).setCell (Nat.le_refl _) _,?_⟩;rw[HL.out];rfl
   |none=>
    have HX:Hid (∀X,Below w.heap.size w X->Calls Tryz.prog 23 #[.slice p Os.length cap] X λe w'=>Below X.heap.size X w'∧∃b n,e=.returned (.tuple #[.map (some b),.nilIface])∧XM w' b n (exK Os Os.length)):=λX hb=>(HX0.out X hb).mono λe w' hr=>by
     unfold ExpRes at hr;rw[hD]at hr;exact hr
    rw[hD]at hL0;have HW:Hid (∀X b n,Below w.heap.size w X->XM X b n (exK Os Os.length)->Calls Tryz.prog 24 #[.slice p Os.length cap,.map (some b)] X λe w'=>e=.returned (wiV adr (exK Os Os.length) Os)∧Below X.heap.size X w'):=λX b n hb hx=>wrongImport_any Os _ X adr b n _ (HO.out X hb) hx (HS.out X hb);rw[wi_eq]at HW;clear hD HX0;cases hM:fstF (λ_=>miB Os) Os 0 with
    |some k=>
     have HL:Hid (lnkE Os entry=some (15,k)):=by show _=_;rw[hL0,hM];rfl
     rw[hM]at HW;simp only[errF]at HW;clear hL0 hM;go_enter Tryz.func13,Tryz.ntmps13;go_wp2_with (first
      |(go_at_call 22;refine(HU.out _ HB0.out).mono ?_;rintro e w1 ⟨rfl,hb1⟩;have HB1:=hid (HB0.out.trans (hb1.mono (by simp)):Below w.heap.size w w1);have hr1:=HR0.out.keep hb1;have HR1:=hid hr1;obtain⟨s0,s1,sf⟩:=hr1;have sf0:=sf 0;have sf1:=sf 1;clear hb1 sf)
      |(go_at_call 23;refine(HX.out _ HB1.out).mono ?_;rintro e w2 ⟨hb2,b,n,rfl,hxm⟩;have HB2:=hid (HB1.out.trans (hb2.mono HB1.out.size):Below w.heap.size w w2);have HXM:=hid hxm;have HR2:=hid (HR1.out.keep hb2);clear hb2 hxm)
      |(go_at_call 24;refine(HW.out _ _ _ HB2.out HXM.out).mono ?_;rintro e w3 ⟨rfl,hb3⟩;have HB3:=hid (HB2.out.trans (hb3.mono HB2.out.size):Below w.heap.size w w3);have hr3:=HR2.out.keep hb3;have HR3:=hid hr3;obtain⟨y0,y1,yf⟩:=hr3;have yf0:=yf 0;have yf1:=yf 1;clear hb3 yf))
     obtain⟨q0,q1,-⟩:=HR3.out.put (.slice none 0 0) (.int .i64 0);refine bodyPost_ret (v:=.tuple #[zProg,errF (adr 15) 0 (k:Int)]) (by simp[results,Tryz.results13,go_sem,q0,q1,zProg,errF]) rfl ?_;refine⟨(HB3.out.setCell (Nat.le_refl _) _).setCell (Nat.le_refl _) _,?_⟩;rw[HL.out];rfl
    |none=>
     have HMI:=hid hM;rw[hM]at HW hL0;simp only at HW;clear hM;cases hA:fstF (λ_=>arB2 Os) Os 0 with
     |some k=>
      have HL:Hid (lnkE Os entry=some (16,k)):=by show _=_;rw[hL0,hA];rfl
      rw[hA]at HW;simp only[errK,errF]at HW;clear hL0 hA;go_enter Tryz.func13,Tryz.ntmps13;go_wp2_with (first
       |(go_at_call 22;refine(HU.out _ HB0.out).mono ?_;rintro e w1 ⟨rfl,hb1⟩;have HB1:=hid (HB0.out.trans (hb1.mono (by simp)):Below w.heap.size w w1);have hr1:=HR0.out.keep hb1;have HR1:=hid hr1;obtain⟨s0,s1,sf⟩:=hr1;have sf0:=sf 0;have sf1:=sf 1;clear hb1 sf)
       |(go_at_call 23;refine(HX.out _ HB1.out).mono ?_;rintro e w2 ⟨hb2,b,n,rfl,hxm⟩;have HB2:=hid (HB1.out.trans (hb2.mono HB1.out.size):Below w.heap.size w w2);have HXM:=hid hxm;have HR2:=hid (HR1.out.keep hb2);clear hb2 hxm)
       |(go_at_call 24;refine(HW.out _ _ _ HB2.out HXM.out).mono ?_;rintro e w3 ⟨rfl,hb3⟩;have HB3:=hid (HB2.out.trans (hb3.mono HB2.out.size):Below w.heap.size w w3);have hr3:=HR2.out.keep hb3;have HR3:=hid hr3;obtain⟨y0,y1,yf⟩:=hr3;have yf0:=yf 0;have yf1:=yf 1;clear hb3 yf))
      obtain⟨q0,q1,-⟩:=HR3.out.put (.slice none 0 0) (.int .i64 0);refine bodyPost_ret (v:=.tuple #[zProg,errF (adr 16) 0 (k:Int)]) (by simp[results,Tryz.results13,go_sem,q0,q1,zProg,errF]) rfl ?_;refine⟨(HB3.out.setCell (Nat.le_refl _) _).setCell (Nat.le_refl _) _,?_⟩;rw[HL.out];rfl
     |none=>
      rw[hA]at HW hL0;simp only[errK]at HW;have hL1:lnkE Os entry=lnkX Os entry:=hL0;unfold lnkX at hL1;have HFE:=hid (exK_all Os entry);clear hA hL0;have HIN:Hid (∀X,Below w.heap.size w X->Calls Tryz.prog 25 #[.slice p Os.length cap] X λe w'=>e=.returned (.int .i64 (sz Os:Int))∧Below X.heap.size X w'):=λX hb=>instructions_any Os _ X (HO.out X hb) HF.out λO hO g hg=>((HSO.out O hO).ne g hg).2;cases hE:expo Os entry with
      |none=>
       rw[hE]at hL1 HFE;have HL:=hid hL1;clear hL1 hE;go_enter Tryz.func13,Tryz.ntmps13;go_wp2_with (first
        |(go_at_call 22;refine(HU.out _ HB0.out).mono ?_;rintro e w1 ⟨rfl,hb1⟩;have HB1:=hid (HB0.out.trans (hb1.mono (by simp)):Below w.heap.size w w1);have HR1:=hid (HR0.out.keep hb1);clear hb1)
        |(go_at_call 23;refine(HX.out _ HB1.out).mono ?_;rintro e w2 ⟨hb2,b,n,rfl,hxm⟩;have HB2:=hid (HB1.out.trans (hb2.mono HB1.out.size):Below w.heap.size w w2);have HXM:=hid hxm;have HR2:=hid (HR1.out.keep hb2);clear hb2 hxm)
        |(go_at_call 24;refine(HW.out _ _ _ HB2.out HXM.out).mono ?_;rintro e w3 ⟨rfl,hb3⟩;have HB3:=hid (HB2.out.trans (hb3.mono HB2.out.size):Below w.heap.size w w3);have HR3:=hid (HR2.out.keep hb3);have hxm3:=HXM.out.keep hb3;have HXM3:=hid hxm3;have hlk:=hxm3.look entry he;rw[HFE.out]at hlk;simp only[xmV,xmP,Option.isSome_none,Option.map_none]at hlk;obtain⟨y0,y1,yf⟩:=HR3.out.keep ((Below.refl _ _).alloc (Nat.le_refl _) (.cells #[.int .i64 0,.int .i64 0] 83));have yf0:=yf 0;have yf1:=yf 1;have hce:=((HS.out _ HB3.out).keep ((Below.refl _ _).alloc (Nat.le_refl _) (.cells #[.int .i64 0,.int .i64 0] 83))).c 17 (by omega);simp only[errE,kNum,List.getD_cons_succ,List.getD_cons_zero]at hce;have hce1:=λx=>(World.cell?_setCell_far (w3.alloc (.cells #[.int .i64 0,.int .i64 0] 83)) ⟨w.heap.size,0,none⟩ ⟨1,0,none⟩ x (by simp;omega)).trans hce;clear hb3 yf hxm3))
       go_region
       all_goals(try go_wp2)
       all_goals
        obtain⟨q0,q1,-⟩:=(R2.put (HR3.out.keep ((Below.refl _ _).alloc (Nat.le_refl _) (.cells #[.int .i64 0,.int .i64 0] 83))) (.slice none 0 0) (.int .i64 0)).drew;refine bodyPost_ret (v:=.tuple #[zProg,errE (adr 17)]) (by simp[results,Tryz.results13,go_sem,q0,q1,zProg,errE]) rfl ?_;refine⟨(((HB3.out.alloc HB3.out.size _).setCell (Nat.le_refl _) _).setCell (Nat.le_refl _) _).drew,?_⟩;rw[HL.out];rfl
      |some r=>
       obtain⟨n,who,a⟩:=r;rw[hE]at hL1 HFE;have HIE:Hid (imgE Os entry=(n:Int)):=by show _=_;unfold imgE;rw[hE]
       simp only[Option.map_some]at HFE;change lnkE Os entry=(if a≠0 then some (17,0) else if 200000<sz Os then some (18,0) else none) at hL1;by_cases ha:a=0
       ·subst ha;rw[if_neg (by simp)]at hL1;by_cases hbig:200000<sz Os
        ·rw[if_pos hbig]at hL1;have HL:=hid hL1;have ib:(200000:Int)<(sz Os:Int):=by omega
         clear hL1 hE;go_enter Tryz.func13,Tryz.ntmps13;go_wp2_with (first
          |(go_at_call 22;refine(HU.out _ HB0.out).mono ?_;rintro e w1 ⟨rfl,hb1⟩;have HB1:=hid (HB0.out.trans (hb1.mono (by simp)):Below w.heap.size w w1);have HR1:=hid (HR0.out.keep hb1);clear hb1)
          |(go_at_call 23;refine(HX.out _ HB1.out).mono ?_;rintro e w2 ⟨hb2,b,nx,rfl,hxm⟩;have HB2:=hid (HB1.out.trans (hb2.mono HB1.out.size):Below w.heap.size w w2);have HXM:=hid hxm;have HR2:=hid (HR1.out.keep hb2);clear hb2 hxm)
          |(go_at_call 24;refine(HW.out _ _ _ HB2.out HXM.out).mono ?_;rintro e w3 ⟨rfl,hb3⟩;have HB3:=hid (HB2.out.trans (hb3.mono HB2.out.size):Below w.heap.size w w3);have HR3:=hid (HR2.out.keep hb3);have hxm3:=HXM.out.keep hb3;have HXM3:=hid hxm3;have hlk:=hxm3.look entry he;rw[HFE.out]at hlk;simp only[xmV,xmP,Option.isSome_some]at hlk;obtain⟨y0,y1,yf⟩:=HR3.out.keep ((Below.refl _ _).alloc (Nat.le_refl _) (.cells #[.int .i64 (n:Int),.int .i64 0] 83));have yf0:=yf 0;have yf1:=yf 1;have hce:=((HS.out _ HB3.out).keep ((Below.refl _ _).alloc (Nat.le_refl _) (.cells #[.int .i64 (n:Int),.int .i64 0] 83))).c 17 (by omega);simp only[errE,kNum,List.getD_cons_succ,List.getD_cons_zero]at hce;have hce1:=λx=>(World.cell?_setCell_far (w3.alloc (.cells #[.int .i64 (n:Int),.int .i64 0] 83)) ⟨w.heap.size,0,none⟩ ⟨1,0,none⟩ x (by simp;omega)).trans hce;clear hb3 yf hxm3)
          |(go_at_call 25;refine(HIN.out _ (HB3.out.alloc HB3.out.size _)).mono ?_;rintro e w4 ⟨rfl,hb4⟩;have HB4:=hid ((HB3.out.alloc HB3.out.size _).trans (hb4.mono (by have:=HB3.out.size;simp;omega)):Below w.heap.size w w4);have hr4:=(HR3.out.keep ((Below.refl _ _).alloc (Nat.le_refl _) _)).keep hb4;have HR4:=hid hr4;have HF4:=hid ((R2.new w3 (.int .i64 (n:Int)) (.int .i64 0) 83).keep hb4);obtain⟨z0,z1,zf⟩:=hr4;have zf0:=zf 0;have zf1:=zf 1;have hcb:=(HS.out _ HB4.out).c 18 (by omega);simp only[errE,kNum,List.getD_cons_succ,List.getD_cons_zero]at hcb;have hcb1:=λx=>(World.cell?_setCell_far w4 ⟨w.heap.size,0,none⟩ ⟨0,0,none⟩ x (by show w.heap.size≠0;omega)).trans hcb;have HXM4:=hid ((HXM3.out.keep ((Below.refl _ _).alloc (Nat.le_refl _) _)).keep hb4);clear hb4 zf))
         go_region
         all_goals(try go_wp2)
         all_goals
          obtain⟨q0,q1,-⟩:=(R2.put HR4.out (.slice none 0 0) (.int .i64 0)).drew;refine bodyPost_ret (v:=.tuple #[zProg,errE (adr 18)]) (by simp[results,Tryz.results13,go_sem,q0,q1,zProg,errE]) rfl ?_;refine⟨((HB4.out.setCell (Nat.le_refl _) _).setCell (Nat.le_refl _) _).drew,?_⟩;rw[HL.out];rfl
        ·rw[if_neg hbig]at hL1;have HL:=hid hL1;have ib:¬(200000:Int)<(sz Os:Int):=by omega
         have HGO:Hid (∀X b nx,Below w.heap.size w X->XM X b nx (exK Os Os.length)->Calls Tryz.prog 26 #[.slice p Os.length cap,.map (some b)] X λe w'=>Below X.heap.size X w'∧∃p n c,e=.returned (.slice p n c)∧MGAt X.heap.size w' (.slice p n c) (img Os)):=λX b nx hb hx=>by
          have h1:=globalsOf_any Os _ b nx _ X (HO.out X hb) hx HF.out (λO hO g hg=>((HSO.out O hO).ne g hg).2) (Nat.le_trans (sz_base HSO.out) (by omega)) λO hO=>(HSO.out O hO).ix;have h2:img Os=gofF (exK Os Os.length) Os 0:=img_same λO hO=>⟨HSO.out O hO,by
           obtain⟨i,hi,rfl⟩:=List.getElem_of_mem hO;exact fstF_none HMI.out i hi⟩
          rw[h2];exact h1
         clear hL1 hE;go_enter Tryz.func13,Tryz.ntmps13;go_upto_region 17 with(first
          |(go_at_call 22;refine(HU.out _ HB0.out).mono ?_;rintro e w1 ⟨rfl,hb1⟩;have HB1:=hid (HB0.out.trans (hb1.mono (by simp)):Below w.heap.size w w1);have HR1:=hid (HR0.out.keep hb1);clear hb1)
          |(go_at_call 23;refine(HX.out _ HB1.out).mono ?_;rintro e w2 ⟨hb2,b,nx,rfl,hxm⟩;have HB2:=hid (HB1.out.trans (hb2.mono HB1.out.size):Below w.heap.size w w2);have HXM:=hid hxm;have HR2:=hid (HR1.out.keep hb2);clear hb2 hxm)
          |(go_at_call 24;refine(HW.out _ _ _ HB2.out HXM.out).mono ?_;rintro e w3 ⟨rfl,hb3⟩;have HB3:=hid (HB2.out.trans (hb3.mono HB2.out.size):Below w.heap.size w w3);have HR3:=hid (HR2.out.keep hb3);have hxm3:=HXM.out.keep hb3;have HXM3:=hid hxm3;have hlk:=hxm3.look entry he;rw[HFE.out]at hlk;simp only[xmV,xmP,Option.isSome_some]at hlk;obtain⟨y0,y1,yf⟩:=HR3.out.keep ((Below.refl _ _).alloc (Nat.le_refl _) (.cells #[.int .i64 (n:Int),.int .i64 0] 83));have yf0:=yf 0;have yf1:=yf 1;have hce:=((HS.out _ HB3.out).keep ((Below.refl _ _).alloc (Nat.le_refl _) (.cells #[.int .i64 (n:Int),.int .i64 0] 83))).c 17 (by omega);simp only[errE,kNum,List.getD_cons_succ,List.getD_cons_zero]at hce;have hce1:=λx=>(World.cell?_setCell_far (w3.alloc (.cells #[.int .i64 (n:Int),.int .i64 0] 83)) ⟨w.heap.size,0,none⟩ ⟨1,0,none⟩ x (by simp;omega)).trans hce;clear hb3 yf hxm3)
          |(go_at_call 25;refine(HIN.out _ (HB3.out.alloc HB3.out.size _)).mono ?_;rintro e w4 ⟨rfl,hb4⟩;have HB4:=hid ((HB3.out.alloc HB3.out.size _).trans (hb4.mono (by have:=HB3.out.size;simp;omega)):Below w.heap.size w w4);have hr4:=(HR3.out.keep ((Below.refl _ _).alloc (Nat.le_refl _) _)).keep hb4;have HR4:=hid hr4;have HF4:=hid ((R2.new w3 (.int .i64 (n:Int)) (.int .i64 0) 83).keep hb4);obtain⟨z0,z1,zf⟩:=hr4;have zf0:=zf 0;have zf1:=zf 1;have hcb:=(HS.out _ HB4.out).c 18 (by omega);simp only[errE,kNum,List.getD_cons_succ,List.getD_cons_zero]at hcb;have hcb1:=λx=>(World.cell?_setCell_far w4 ⟨w.heap.size,0,none⟩ ⟨0,0,none⟩ x (by show w.heap.size≠0;omega)).trans hcb;have HXM4:=hid ((HXM3.out.keep ((Below.refl _ _).alloc (Nat.le_refl _) _)).keep hb4);clear hb4 zf))
         have hne:w.heap.size<w3.heap.size:=HR3.out.lt;have t0:w4.drew.cell? ⟨w3.heap.size,0,none⟩=some (.int .i64 (n:Int)):=HF4.out.c0;have HG4:=hid (HGO.out w4.drew b nx HB4.out.drew (HXM4.out.keep (Below.refl _ _).drew));have HR4D:=hid HR4.out.drew;have hz4:=HB4.out.size;have hw4:w.heap.size<w4.drew.heap.size:=HR4D.out.lt;clear hlk;go_region_held_law (λw'=>w'.cell? ⟨w3.heap.size,0,none⟩=some (.int .i64 (n:Int))) (first|assumption|(rw[World.cell?_setCell_far _ _ _ _ (by simp;omega),World.cell?_setCell_far _ _ _ _ (by simp;omega)];assumption))
          (first
           |(go_at_call 26;refine HG4.out.mono ?_;rintro e w5 ⟨hb5,gp,gn,gc,rfl,hmg⟩;have t5:=cell_keep hb5 t0;have HB5:=hid (HB4.out.drew.trans (hb5.mono hz4):Below w.heap.size w w5);have hr5:=HR4D.out.keep hb5;have HR5:=hid hr5;obtain⟨x0,x1,xf⟩:=hr5;have xf0:=xf 0;have xf1:=xf 1;have HMG:=hid hmg;clear hb5 hmg xf))
         all_goals(try go_wp2)
         all_goals
          obtain⟨q0,q1,-⟩:=HR5.out.put (.slice gp gn gc) (.int .i64 (n:Int));refine bodyPost_ret (v:=.tuple #[.agg #[.slice gp gn gc,.int .i64 (n:Int)],.nilIface]) (by simp[results,Tryz.results13,go_sem,q0,q1]) rfl ?_;refine⟨(HB5.out.setCell (Nat.le_refl _) _).setCell (Nat.le_refl _) _,?_⟩;rw[HL.out];exact⟨gp,gn,gc,by rw[HIE.out],((HMG.out.set hw4 _).set hw4 _).low (Nat.zero_le _)⟩
       ·rw[if_pos ha]at hL1;have HL:=hid hL1;clear hL1 hE;go_enter Tryz.func13,Tryz.ntmps13;go_wp2_with (first
         |(go_at_call 22;refine(HU.out _ HB0.out).mono ?_;rintro e w1 ⟨rfl,hb1⟩;have HB1:=hid (HB0.out.trans (hb1.mono (by simp)):Below w.heap.size w w1);have HR1:=hid (HR0.out.keep hb1);clear hb1)
         |(go_at_call 23;refine(HX.out _ HB1.out).mono ?_;rintro e w2 ⟨hb2,b,nx,rfl,hxm⟩;have HB2:=hid (HB1.out.trans (hb2.mono HB1.out.size):Below w.heap.size w w2);have HXM:=hid hxm;have HR2:=hid (HR1.out.keep hb2);clear hb2 hxm)
         |(go_at_call 24;refine(HW.out _ _ _ HB2.out HXM.out).mono ?_;rintro e w3 ⟨rfl,hb3⟩;have HB3:=hid (HB2.out.trans (hb3.mono HB2.out.size):Below w.heap.size w w3);have HR3:=hid (HR2.out.keep hb3);have hxm3:=HXM.out.keep hb3;have HXM3:=hid hxm3;have hlk:=hxm3.look entry he;rw[HFE.out]at hlk;simp only[xmV,xmP,Option.isSome_some]at hlk;obtain⟨y0,y1,yf⟩:=HR3.out.keep ((Below.refl _ _).alloc (Nat.le_refl _) (.cells #[.int .i64 (n:Int),.int .i64 a] 83));have yf0:=yf 0;have yf1:=yf 1;have hce:=((HS.out _ HB3.out).keep ((Below.refl _ _).alloc (Nat.le_refl _) (.cells #[.int .i64 (n:Int),.int .i64 a] 83))).c 17 (by omega);simp only[errE,kNum,List.getD_cons_succ,List.getD_cons_zero]at hce;have hce1:=λx=>(World.cell?_setCell_far (w3.alloc (.cells #[.int .i64 (n:Int),.int .i64 a] 83)) ⟨w.heap.size,0,none⟩ ⟨1,0,none⟩ x (by simp;omega)).trans hce;clear hb3 yf hxm3))
        go_region
        all_goals(try go_wp2)
        all_goals
         obtain⟨q0,q1,-⟩:=(R2.put (HR3.out.keep ((Below.refl _ _).alloc (Nat.le_refl _) (.cells #[.int .i64 (n:Int),.int .i64 a] 83))) (.slice none 0 0) (.int .i64 0)).drew;refine bodyPost_ret (v:=.tuple #[zProg,errE (adr 17)]) (by simp[results,Tryz.results13,go_sem,q0,q1,zProg,errE]) rfl ?_;refine⟨(((HB3.out.alloc HB3.out.size _).setCell (Nat.le_refl _) _).setCell (Nat.le_refl _) _).drew,?_⟩;rw[HL.out];rfl
structure AG (X:List Nat) (w w':World):Prop where
 os:w'.os=w.os
 tape:w'.tape=w.tape
 output:w'.output=w.output
 size:w.heap.size<=w'.heap.size
 block:∀k,k<w.heap.size->k∉X->w'.heap[k]?=w.heap[k]?
theorem AG.refl(X:List Nat)(w:World):AG X w w:=⟨rfl,rfl,rfl,Nat.le_refl _,λ_ _ _=>rfl⟩
theorem AG.of_below{X:List Nat}{w w':World}(h:Below w.heap.size w w'):AG X w w':=⟨h.os,h.tape,h.output,h.size,λk hk _=>h.block k hk⟩
theorem AG.trans{X Y:List Nat}{w w1 w2:World}(h:AG X w w1)(k:AG Y w1 w2)(hY:∀b∈Y,b∈X∨w.heap.size<=b):AG X w w2:=
 ⟨k.os.trans h.os,k.tape.trans h.tape,k.output.trans h.output,Nat.le_trans h.size k.size,λb hb hX=>by
  rw[k.block b (Nat.lt_of_lt_of_le hb h.size) (λhm=>by rcases hY b hm with h1|h1;exact hX h1;omega)];exact h.block b hb hX⟩
theorem AG.set{X:List Nat}{b j:Nat}{w w':World}(h:AG X w w')(hb:b∈X∨w.heap.size<=b)(u:Value):AG X w (w'.setCell ⟨b,j,none⟩ u):=
 ⟨h.os,h.tape,h.output,by simpa using h.size,λk hk hX=>by
  rw[Below.heap_setCell _ _ _ _ (show k≠b from λe=>by subst e;rcases hb with h1|h1;exact hX h1;omega)];exact h.block k hk hX⟩
theorem AG.grown{X:List Nat}{r:Option Nat}{w w' w2:World}(h:AG X w w')(hg:w'.grownBy w2 r)(hr:∀b,r=some b->b∈X∨w.heap.size<=b):AG X w w2:=
 ⟨hg.os.trans h.os,hg.tape.trans h.tape,hg.output.trans h.output,Nat.le_trans h.size hg.size,λk hk hX=>by
  rw[hg.block k (Nat.lt_of_lt_of_le hk h.size) (λe=>by rcases hr k e.symm with h1|h1;exact hX h1;omega)];exact h.block k hk hX⟩
theorem AG.then{X:List Nat}{w w1 w2:World}(h:AG X w w1)(hb:Below w1.heap.size w1 w2):AG X w w2:=h.trans (AG.of_below (X:=[]) hb) λb hb=>by cases hb
theorem AG.low{X:List Nat}{lo:Nat}{w w':World}(h:AG X w w')(hX:∀b∈X,lo<=b)(hz:lo<=w.heap.size):Below lo w w':=⟨h.os,h.tape,h.output,h.size,λk hk=>h.block k (by omega) λhm=>by have:=hX k hm;omega⟩
def FBL(w:World)(b:Nat)(L:List Value):Prop:=FB w b L.length λj=>(L[j]?).getD .nilIface
theorem FBL.at{w:World}{b:Nat}{L:List Value}(h:FBL w b L)(j:Nat){v:Value}(hv:L[j]?=some v):w.cell? ⟨b,j,none⟩=some v:=by
 have hj:j<L.length:=(List.getElem?_eq_some_iff.1 hv).1;have:=h.c j hj;simpa[hv]using this
theorem FBL.set{w:World}{b:Nat}{L:List Value}(h:FBL w b L){i:Nat}(hi:i<L.length)(u:Value):FBL (w.setCell ⟨b,i,none⟩ u) b (L.set i u):=by
 refine⟨λj hj=>?_,λj=>by rw[World.frozen?_setCell];exact h.fz j,by simpa using h.lt⟩;rw[List.length_set]at hj;by_cases e:j=i
 ·subst e;rw[World.cell?_setCell_same _ _ _ (h.c j hj)];simp[hi]
 ·rw[setc (Ne.symm e),h.c j hj,List.getElem?_set_ne (Ne.symm e)]
theorem FBL.of_block{w w':World}{b:Nat}{L:List Value}(h:FBL w b L)(e:w'.heap[b]?=w.heap[b]?)(hz:w.heap.size<=w'.heap.size):FBL w' b L:=FB.of_block h e hz
structure MCl where
 kind:Int
 n:Int
 left:Int
 right:Int
 fields:List Int
structure MFr where
 base:Int
 code:List LIns
 at_:Int
structure MSt where
 cells:List MCl
 stack:List Int
 fr:MFr
 dump:List MFr
 su:Int
 sm:Int
 mu:Int
 mm:Int
 state:Int
 kind:Int
 text:List UInt8
def mcC(x:MCl×Value):List Value:=[.int .u8 x.1.kind,.int .i64 x.1.n,.int .i32 x.1.left,.int .i32 x.1.right,x.2]
def frC(x:MFr×Value):List Value:=[.int .i64 x.1.base,x.2,.int .i64 x.1.at_]
def rfC(l:List Int):List Value:=l.map λx=>.int .i32 x
def btC(l:List UInt8):List Value:=l.map λx=>.int .u8 (x.toNat:Int)
def FldX(X:Nat->Prop)(w:World)(v:Value)(l:List Int):Prop:=∃p cap,v=.slice p l.length cap∧∀i (h:i<l.length),∃b o,X b∧p=some ⟨b,o,none⟩∧w.cell? ⟨b,o+i,none⟩=some (.int .i32 l[i])
theorem FldX.fr{X Y:Nat->Prop}{w w':World}{v:Value}{l:List Int}(h:FldX X w v l)(hX:∀b,X b->b<w.heap.size->Y b∧w'.heap[b]?=w.heap[b]?):FldX Y w' v l:=by
 obtain⟨p,cap,e,hc⟩:=h;refine⟨p,cap,e,λi hi=>?_⟩;obtain⟨b,o,hx,e2,h0⟩:=hc i hi;obtain⟨k1,k2⟩:=hX b hx (block_lt_of_cell h0);exact⟨b,o,k1,e2,cell_same k2 h0⟩
def CdAt(lo:Nat)(w:World)(v:Value)(l:List LIns):Prop:=(v=.slice none 0 0∧l=[])∨MCx (λb=>b<lo) w v l
theorem CdAt.fr{lo:Nat}{w w':World}{v:Value}{l:List LIns}(h:CdAt lo w v l)(hb:Below lo w w'):CdAt lo w' v l:=h.imp id λh=>h.fr hb.size λb h1 _=>hb.block b h1
def mL(Pb:Nat)(cv sv kv dv tv:Value)(st:MSt):List Value:=[.pointer (some ⟨Pb,0,none⟩),cv,sv,.int .i64 st.fr.base,kv,.int .i64 st.fr.at_,dv,.int .i64 st.su,.int .i64 st.sm,.int .i64 st.mu,.int .i64 st.mm,.int .i64 st.state,.int .i64 st.kind,tv]
def mB(M:Nat)(cv sv dv tv:Value):List Nat:=M::(vB cv++(vB sv++(vB dv++vB tv)))
structure MMem (lo:Nat) (w:World) (M Pb:Nat) (st:MSt) (cs:List (MCl×Value)) (ds:List (MFr×Value)) (cv sv kv dv tv:Value):Prop where
 m:FBL w M (mL Pb cv sv kv dv tv st)
 cl:w.ownsRow lo 144 5 cv cs.length (cs.flatMap mcC)
 fl:∀x∈cs,FldX (λb=>lo<=b∧b∉mB M cv sv dv tv) w x.2 x.1.fields
 sk:w.ownsRow lo 98 1 sv st.stack.length (rfC st.stack)
 dp:w.ownsRow lo 103 3 dv ds.length (ds.flatMap frC)
 dc:∀x∈ds,CdAt lo w x.2 x.1.code
 cd:CdAt lo w kv st.fr.code
 tx:w.ownsRow lo 5 1 tv st.text.length (btC st.text)
 hcs:cs.map (·.1)=st.cells
 hds:ds.map (·.1)=st.dump
 nd:(mB M cv sv dv tv).Nodup
 ml:lo<=M
theorem own_lo{w:World}{B:Nat}{e:TypeId}{size n b:Nat}{v:Value}{xs:List Value}(h:w.ownsRow B e size v n xs)(hb:b∈vB v):B<=b∧b<w.heap.size:=⟨row_low h (mem_vB.1 hb),own_lt h (mem_vB.1 hb)⟩
section
variable {lo:Nat} {w w':World} {M Pb:Nat} {st:MSt} {cs:List (MCl×Value)} {ds:List (MFr×Value)} {cv sv kv dv tv:Value}
theorem MMem.rg(h:MMem lo w M Pb st cs ds cv sv kv dv tv):∀b∈mB M cv sv dv tv,lo<=b∧b<w.heap.size:=by
 intro b hb;rcases List.mem_cons.1 hb with rfl|hb
 ·exact⟨h.ml,h.m.lt⟩
 rcases List.mem_append.1 hb with hb|hb
 ·exact own_lo h.cl hb
 rcases List.mem_append.1 hb with hb|hb
 ·exact own_lo h.sk hb
 rcases List.mem_append.1 hb with hb|hb
 ·exact own_lo h.dp hb
 ·exact own_lo h.tx hb
theorem MMem.lz(h:MMem lo w M Pb st cs ds cv sv kv dv tv):lo<=w.heap.size:=Nat.le_trans h.ml (Nat.le_of_lt h.m.lt)
theorem MMem.keep(h:MMem lo w M Pb st cs ds cv sv kv dv tv)(hb:Below w.heap.size w w'):MMem lo w' M Pb st cs ds cv sv kv dv tv:=
 ⟨h.m.of_block (hb.block _ h.m.lt) hb.size,row_kp h.cl hb,λx hx=>(h.fl x hx).fr λb h1 h2=>⟨h1,hb.block b h2⟩,row_kp h.sk hb,row_kp h.dp hb,λx hx=>(h.dc x hx).fr (hb.mono h.lz),h.cd.fr (hb.mono h.lz),row_kp h.tx hb,h.hcs,h.hds,h.nd,h.ml⟩
theorem MMem.setM(h:MMem lo w M Pb st cs ds cv sv kv dv tv){i:Nat}{u:Value}{st':MSt}{kv':Value}(hL:(mL Pb cv sv kv dv tv st).set i u=mL Pb cv sv kv' dv tv st')(hi:i<14)(h1:st'.cells=st.cells)(h2:st'.stack=st.stack)(h3:st'.dump=st.dump)(h4:st'.text=st.text)(hc:CdAt lo w kv' st'.fr.code):MMem lo (w.setCell ⟨M,i,none⟩ u) M Pb st' cs ds cv sv kv' dv tv:=by
 have hnd:=List.nodup_cons.1 h.nd;have hne:∀b,b≠M->(w.setCell ⟨M,i,none⟩ u).heap[b]?=w.heap[b]?:=λb hb=>Below.heap_setCell _ _ _ _ hb;have hr:∀v,(∀b∈vB v,b∈vB cv++(vB sv++(vB dv++vB tv)))->Fr (vB v) w (w.setCell ⟨M,i,none⟩ u):=λv hv b hb=>hne b λe=>hnd.1 (e▸hv b hb);have hbl:Below lo w (w.setCell ⟨M,i,none⟩ u):=(Below.refl _ _).setCell h.ml _;have hm:=h.m.set (i:=i) hi u;rw[hL]at hm;refine⟨hm,row_fr h.cl (hr cv λb hb=>List.mem_append_left _ hb),λx hx=>(h.fl x hx).fr λb hx _=>⟨hx,hne b λe=>hx.2 (e▸List.mem_cons_self ..)⟩,?_,row_fr h.dp (hr dv λb hb=>List.mem_append_right _ (List.mem_append_right _ (List.mem_append_left _ hb))),λx hx=>(h.dc x hx).fr hbl,hc.fr hbl,?_,by rw[h1];exact h.hcs,by rw[h3];exact h.hds,h.nd,h.ml⟩
 ·rw[h2];exact row_fr h.sk (hr sv λb hb=>List.mem_append_right _ (List.mem_append_left _ hb))
 ·rw[h4];exact row_fr h.tx (hr tv λb hb=>List.mem_append_right _ (List.mem_append_right _ (List.mem_append_right _ hb)))
end
def MM(lo:Nat)(w:World)(M Pb:Nat)(st:MSt)(B:List Nat):Prop:=∃cs ds cv sv kv dv tv,MMem lo w M Pb st cs ds cv sv kv dv tv∧B=mB M cv sv dv tv
theorem MM.keep{lo:Nat}{w w':World}{M Pb:Nat}{st:MSt}{B:List Nat}(h:MM lo w M Pb st B)(hb:Below w.heap.size w w'):MM lo w' M Pb st B:=by
 obtain⟨cs,ds,cv,sv,kv,dv,tv,h,e⟩:=h;exact⟨cs,ds,cv,sv,kv,dv,tv,h.keep hb,e⟩
def MRes(lo M Pb:Nat)(B:List Nat)(w:World)(st:MSt)(r:Value)(e:Ending)(w':World):Prop:=e=.returned r∧AG B w w'∧∃B',MM lo w' M Pb st B'∧∀b∈B',b∈B∨w.heap.size<=b
theorem take_any(b o:Nat)(u m n:Int)(w:World)(h0:w.cell? ⟨b,o,none⟩=some (.int .i64 u))(h1:w.cell? ⟨b,o+1,none⟩=some (.int .i64 m))(hf:w.frozen? ⟨b,o,none⟩=false)(hu:0<=u∧u<=1000000000000)(hm:0<=m∧m<=1000000000000)(hn:0<=n∧n<=1000000000000):
 Calls Tryz.prog 81 #[.pointer (some ⟨b,o,none⟩),.int .i64 n] w λe w'=>(n<=m-u∧e=.returned (.bool true)∧w'=w.drew.setCell ⟨b,o,none⟩ (.int .i64 (u+n)))∨(m-u<n∧e=.returned (.bool false)∧w'=w.drew):=by
 have d0:w.drew.cell? ⟨b,o,none⟩=_:=h0;have d1:w.drew.cell? ⟨b,o+1,none⟩=_:=h1;have df:w.drew.frozen? ⟨b,o,none⟩=_:=hf;by_cases hc:m-u<n
 ·go_enter Tryz.func81,Tryz.ntmps81;go_wp2;go_region
  go_wp2;go_ret;exact Or.inr ⟨hc,rfl,rfl⟩
 ·have hc2:n<=m-u:=by omega
  go_enter Tryz.func81,Tryz.ntmps81;go_wp2;go_region
  go_wp2;go_ret;exact Or.inl ⟨hc2,rfl,rfl⟩
structure Mtr (st:MSt):Prop where
 su:0<=st.su∧st.su<=st.sm
 sm:st.sm<=2000000
 mu:0<=st.mu∧st.mu<=st.mm
 mm:st.mm<=2000000
def stopS(k:Int)(st:MSt):MSt:={st with state:=2,kind:=k}
def stepB(st:MSt):Bool:=decide (1<=st.sm-st.su)
def stepS(st:MSt):MSt:=if stepB st then {st with su:=st.su+1} else stopS 1 st
def roomB(n:Int)(st:MSt):Bool:=decide (n<=st.mm-st.mu)
def roomS(n:Int)(st:MSt):MSt:=if roomB n st then {st with mu:=st.mu+n} else stopS 2 st
theorem stop_any{lo:Nat}{w:World}{M Pb:Nat}{st:MSt}{B:List Nat}(k:Int)(h:MM lo w M Pb st B):
 Calls Tryz.prog 82 #[.pointer (some ⟨M,0,none⟩),.int .i64 k] w λe w'=>MRes lo M Pb B w (stopS k st) (.tuple #[]) e w':=by
 obtain⟨cs,ds,cv,sv,kv,dv,tv,h,rfl⟩:=h;have e11:=h.m.at 11 rfl;have e12:=h.m.at 12 rfl;have f11:=h.m.fz 11;have f12:=h.m.fz 12;have HM:=hid h;have HR:Hid (MM lo ((w.setCell ⟨M,11,none⟩ (.int .i64 2)).setCell ⟨M,12,none⟩ (.int .i64 k)) M Pb (stopS k st) (mB M cv sv dv tv)):=by
  have h1:=h.setM (i:=11) (u:=.int .i64 2) (st':={st with state:=2}) (kv':=kv) rfl (by omega) rfl rfl rfl rfl h.cd;have h2:=h1.setM (i:=12) (u:=.int .i64 k) (st':=stopS k st) (kv':=kv) rfl (by omega) rfl rfl rfl rfl h1.cd;exact⟨cs,ds,cv,sv,kv,dv,tv,h2,rfl⟩
 clear h;go_enter Tryz.func82,Tryz.ntmps82;go_wp2;refine bE ?_;exact⟨rfl,((AG.refl _ _).set (Or.inl (List.mem_cons_self ..)) _).set (Or.inl (List.mem_cons_self ..)) _,_,HR.out,λb hb=>Or.inl hb⟩
theorem MMem.drew{lo:Nat}{w:World}{M Pb:Nat}{st:MSt}{cs:List (MCl×Value)}{ds:List (MFr×Value)}{cv sv kv dv tv:Value}(h:MMem lo w M Pb st cs ds cv sv kv dv tv):MMem lo w.drew M Pb st cs ds cv sv kv dv tv:=h.keep (Below.refl _ _).drew
theorem MRes.of{lo M Pb:Nat}{B B1:List Nat}{w w1:World}{st:MSt}{r r':Value}{e e':Ending}{w':World}(h1:AG B w w1)(h2:∀b∈B1,b∈B∨w.heap.size<=b)(h:MRes lo M Pb B1 w1 st r e w')(he:e'=.returned r'):MRes lo M Pb B w st r' e' w':=by
 obtain⟨-,hf,B',hm,hb⟩:=h;have:=h1.size;refine⟨he,h1.trans hf h2,B',hm,λb hb'=>?_⟩;rcases hb b hb' with h3|h3
 ·exact h2 b h3
 ·right;omega
theorem step_any{lo:Nat}{w:World}{M Pb:Nat}{st:MSt}{B:List Nat}(h:MM lo w M Pb st B)(hm:Mtr st):
 Calls Tryz.prog 58 #[.pointer (some ⟨M,0,none⟩)] w λe w'=>MRes lo M Pb B w (stepS st) (.bool (stepB st)) e w':=by
 obtain⟨cs,ds,cv,sv,kv,dv,tv,h,rfl⟩:=h;have hsu:=hm.su;have hsm:=hm.sm;have HT:=hid (take_any M 7 st.su st.sm 1 w (h.m.at 7 rfl) (h.m.at 8 rfl) (h.m.fz 7) (by omega) (by omega) (by omega));have HS:=hid (stop_any 1 (⟨cs,ds,cv,sv,kv,dv,tv,h.drew,rfl⟩:MM lo w.drew M Pb st (mB M cv sv dv tv)));by_cases hc:1<=st.sm-st.su
 ·have HB:Hid (stepB st=true):=by show _=_;unfold stepB;simpa using hc
  have HR:Hid (MM lo (w.drew.setCell ⟨M,7,none⟩ (.int .i64 (st.su+1))) M Pb (stepS st) (mB M cv sv dv tv)):=by
   have h1:=h.drew.setM (i:=7) (u:=.int .i64 (st.su+1)) (st':={st with su:=st.su+1}) (kv':=kv) rfl (by omega) rfl rfl rfl rfl h.drew.cd;unfold stepS;rw[if_pos HB.out];exact⟨cs,ds,cv,sv,kv,dv,tv,h1,rfl⟩
  have HT2:Hid (Calls Tryz.prog 81 #[.pointer (some ⟨M,7,none⟩),.int .i64 1] w λe w'=>e=.returned (.bool true)∧w'=w.drew.setCell ⟨M,7,none⟩ (.int .i64 (st.su+1))):=HT.out.mono λe w' hr=>by
   rcases hr with⟨-,h1,h2⟩|⟨h1,-,-⟩
   ·exact⟨h1,h2⟩
   ·omega
  clear h HT HS;go_enter Tryz.func58,Tryz.ntmps58;go_wp2_with (first|(go_at_call 81;refine HT2.out.mono ?_;rintro e w1 ⟨rfl,rfl⟩))
  go_ret;refine⟨ret_val (by rw[HB.out];rfl),AG.set (AG.of_below (Below.refl _ _).drew) (Or.inl (List.mem_cons_self ..)) _,_,HR.out,λb hb=>Or.inl hb⟩
 ·have HB:Hid (stepB st=false):=by show _=_;unfold stepB;simpa using hc
  have HSS:Hid (stepS st=stopS 1 st):=by show _=_;unfold stepS;rw[HB.out];rfl
  have HT2:Hid (Calls Tryz.prog 81 #[.pointer (some ⟨M,7,none⟩),.int .i64 1] w λe w'=>e=.returned (.bool false)∧w'=w.drew):=HT.out.mono λe w' hr=>by
   rcases hr with⟨h1,-,-⟩|⟨-,h1,h2⟩
   ·omega
   ·exact⟨h1,h2⟩
  clear h HT;go_enter Tryz.func58,Tryz.ntmps58;go_wp2_with (first
   |(go_at_call 81;refine HT2.out.mono ?_;rintro e w1 ⟨rfl,rfl⟩)
   |(go_at_call 82;refine HS.out.mono ?_;intro e w2 hr;obtain⟨rfl,-⟩:=id hr;have HR:=hid hr;clear hr))
  go_ret;rw[HSS.out];exact HR.out.of (AG.of_below (Below.refl _ _).drew) (λb hb=>Or.inl hb) (ret_val (by rw[HB.out];rfl))
theorem room_any{lo:Nat}{w:World}{M Pb:Nat}{st:MSt}{B:List Nat}(n:Int)(hn:0<=n∧n<=1000000)(h:MM lo w M Pb st B)(hm:Mtr st):
 Calls Tryz.prog 113 #[.pointer (some ⟨M,0,none⟩),.int .i64 n] w λe w'=>MRes lo M Pb B w (roomS n st) (.bool (roomB n st)) e w':=by
 obtain⟨cs,ds,cv,sv,kv,dv,tv,h,rfl⟩:=h;have hsu:=hm.mu;have hsm:=hm.mm;have HT:=hid (take_any M 9 st.mu st.mm n w (h.m.at 9 rfl) (h.m.at 10 rfl) (h.m.fz 9) (by omega) (by omega) (by omega));have HS:=hid (stop_any 2 (⟨cs,ds,cv,sv,kv,dv,tv,h.drew,rfl⟩:MM lo w.drew M Pb st (mB M cv sv dv tv)));by_cases hc:n<=st.mm-st.mu
 ·have HB:Hid (roomB n st=true):=by show _=_;unfold roomB;simpa using hc
  have HR:Hid (MM lo (w.drew.setCell ⟨M,9,none⟩ (.int .i64 (st.mu+n))) M Pb (roomS n st) (mB M cv sv dv tv)):=by
   have h1:=h.drew.setM (i:=9) (u:=.int .i64 (st.mu+n)) (st':={st with mu:=st.mu+n}) (kv':=kv) rfl (by omega) rfl rfl rfl rfl h.drew.cd;unfold roomS;rw[if_pos HB.out];exact⟨cs,ds,cv,sv,kv,dv,tv,h1,rfl⟩
  have HT2:Hid (Calls Tryz.prog 81 #[.pointer (some ⟨M,9,none⟩),.int .i64 n] w λe w'=>e=.returned (.bool true)∧w'=w.drew.setCell ⟨M,9,none⟩ (.int .i64 (st.mu+n))):=HT.out.mono λe w' hr=>by
   rcases hr with⟨-,h1,h2⟩|⟨h1,-,-⟩
   ·exact⟨h1,h2⟩
   ·omega
  clear h HT HS;go_enter Tryz.func113,Tryz.ntmps113;go_wp2_with (first|(go_at_call 81;refine HT2.out.mono ?_;rintro e w1 ⟨rfl,rfl⟩))
  go_ret;refine⟨ret_val (by rw[HB.out];rfl),AG.set (AG.of_below (Below.refl _ _).drew) (Or.inl (List.mem_cons_self ..)) _,_,HR.out,λb hb=>Or.inl hb⟩
 ·have HB:Hid (roomB n st=false):=by show _=_;unfold roomB;simpa using hc
  have HSS:Hid (roomS n st=stopS 2 st):=by show _=_;unfold roomS;rw[HB.out];rfl
  have HT2:Hid (Calls Tryz.prog 81 #[.pointer (some ⟨M,9,none⟩),.int .i64 n] w λe w'=>e=.returned (.bool false)∧w'=w.drew):=HT.out.mono λe w' hr=>by
   rcases hr with⟨h1,-,-⟩|⟨-,h1,h2⟩
   ·omega
   ·exact⟨h1,h2⟩
  clear h HT;go_enter Tryz.func113,Tryz.ntmps113;go_wp2_with (first
   |(go_at_call 81;refine HT2.out.mono ?_;rintro e w1 ⟨rfl,rfl⟩)
   |(go_at_call 82;refine HS.out.mono ?_;intro e w2 hr;obtain⟨rfl,-⟩:=id hr;have HR:=hid hr;clear hr))
  go_ret;rw[HSS.out];exact HR.out.of (AG.of_below (Below.refl _ _).drew) (λb hb=>Or.inl hb) (ret_val (by rw[HB.out];rfl))
end Go.Proofs.YtlccndplhfcknaaGreatDoor
