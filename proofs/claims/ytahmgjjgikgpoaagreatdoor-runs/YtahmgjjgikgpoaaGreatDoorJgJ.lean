import Derived.Test.YtahmgjjgikgpoaaGreatDoorJeJ
set_option maxRecDepth 100000
set_option maxHeartbeats 4000000
namespace Go.Proofs.YtahmgjjgikgpoaaGreatDoor
open Go.RowKit Go.Sort
structure R2 (w:World) (b:Nat) (x y:Value):Prop where
 c0:w.cell? ⟨b,0,none⟩=some x
 c1:w.cell? ⟨b,1,none⟩=some y
 f:∀j,w.frozen? ⟨b,j,none⟩=false
theorem R2.lt{w:World}{b:Nat}{x y:Value}(h:R2 w b x y):b<w.heap.size:=block_lt_of_cell h.c0
theorem R2.of_block{w w':World}{b:Nat}{x y:Value}(h:R2 w b x y)(e:w'.heap[b]?=w.heap[b]?):R2 w' b x y:=by
 have hc:∀j,w'.cell? ⟨b,j,none⟩=w.cell? ⟨b,j,none⟩:=λj=>World.cell?_of_block (a:=⟨b,j,none⟩) e;exact⟨by rw[hc];exact h.c0,by rw[hc];exact h.c1,λj=>by rw[World.frozen?_of_block (a:=⟨b,j,none⟩) e];exact h.f j⟩
theorem R2.keep{w w':World}{b:Nat}{x y:Value}(h:R2 w b x y)(hb:Below w.heap.size w w'):R2 w' b x y:=h.of_block (hb.block b h.lt)
theorem R2.drew{w:World}{b:Nat}{x y:Value}(h:R2 w b x y):R2 w.drew b x y:=⟨h.c0,h.c1,h.f⟩
theorem R2.new(w:World)(x y:Value)(t:TypeId):R2 (w.alloc (.cells #[x,y] t)) w.heap.size x y:=⟨alloc_cell w #[x,y] t 0 _ rfl,alloc_cell w #[x,y] t 1 _ rfl,λj=>by simp⟩
theorem R2.put{w:World}{b:Nat}{x y:Value}(h:R2 w b x y)(u v:Value):R2 ((w.setCell ⟨b,0,none⟩ u).setCell ⟨b,1,none⟩ v) b u v:=
 ⟨by rw[setc (by omega)];exact World.cell?_setCell_same _ _ _ h.c0,World.cell?_setCell_same _ _ _ (by rw[setc (by omega)];exact h.c1),λj=>by simp only[World.frozen?_setCell];exact h.f j⟩
def zProg:Value:=.agg #[.slice none 0 0,.int .i64 0]
def lnkV(adr:Nat->Addr)(x:Nat×Nat):Value:=if x.1=17∨x.1=18 then errE (adr x.1) else errF (adr x.1) 0 (x.2:Int)
def ObjRes(adr:Nat->Addr)(Os:List LObj)(entry:ByteArray)(w:World)(e:Ending)(w':World):Prop:=Below w.heap.size w w'∧match lnkE Os entry with
 |some x=>e=.returned (.tuple #[zProg,lnkV adr x])
 |none=>∃p n c,e=.returned (.tuple #[.agg #[.slice p n c,.int .i64 (imgE Os entry)],.nilIface])∧MGAt w.heap.size w' (.slice p n c) (img Os)
theorem tw_dp{Os:List LObj}(h:∀O∈Os,SoundO O):fstF (twB Os) Os 0=fstF (dpB Os) Os 0:=fstF_congr λi hi=>by
 rw[Nat.zero_add];exact(dp_tw hi (h _ (List.getElem_mem _))).symm
theorem wi_eq{adr:Nat->Addr}{Os:List LObj}:wiV adr (exK Os Os.length) Os=match fstF (λ_=>miB Os) Os 0 with
 |some k=>errF (adr 15) 0 (k:Int)
 |none=>errK adr 16 (fstF (λ_=>arB2 Os) Os 0):=by
 unfold wiV;rw[show(λ_:Nat=>miX (exK Os Os.length))=λ_=>miB Os from funext λ_=>funext λO=>mi_same Os O,show(λ_:Nat=>arX (exK Os Os.length))=λ_=>arB2 Os from funext λ_=>funext λO=>ar_same Os O];rfl
theorem objects_any(Os:List LObj)(v:Value)(entry:ByteArray)(w:World)(adr:Nat->Addr)(h:ObjsAt w v Os)(hZ:Szd Os)(he:entry.size<=maxLen)(hT:TabAt w)(hS:SentAt w adr):
 Calls Tryz.prog 14 #[v,.string entry] w λe w'=>ObjRes adr Os entry w e w':=by
 have HO:=hid (λX (hb:Below w.heap.size w X)=>h.keep hb);have HT:=hid (λX (hb:Below w.heap.size w X)=>hT.keep hb);have HS:=hid (λX (hb:Below w.heap.size w X)=>hS.keep hb);obtain⟨p,cap,rfl,hs,-⟩:=id h;unfold short at hs;have HZ:=hid hZ;clear h hT hS hZ;have hb0:Below w.heap.size w (w.alloc (.cells #[.slice none 0 0,.int .i64 0] 58)):=(Below.refl _ _).alloc (Nat.le_refl _) _;have hr0:R2 (w.alloc (.cells #[.slice none 0 0,.int .i64 0] 58)) w.heap.size (.slice none 0 0) (.int .i64 0):=R2.new ..;have HB0:=hid hb0;have HR0:=hid hr0;have hg1:1<w.heap.size:=block_lt_of_cell ((HS.out w (Below.refl _ _)).c 17 (by omega));have hg2:0<w.heap.size:=block_lt_of_cell ((HS.out w (Below.refl _ _)).c 18 (by omega));clear hb0 hr0;by_cases h8:8<Os.length
 ·have hL:lnkE Os entry=some (18,0):=by unfold lnkE;rw[if_pos h8]
  have HL:=hid hL;have i8:(8:Int)<(Os.length:Int):=by omega
  have hc:=(HS.out _ HB0.out).c 18 (by omega);simp only[errE,kNum,List.getD_cons_succ,List.getD_cons_zero]at hc;go_enter Tryz.func14,Tryz.ntmps14;go_wp2;go_region
  all_goals(try go_wp2)
  all_goals
   obtain⟨q0,q1,-⟩:=HR0.out;have d0:(w.alloc (.cells #[.slice none 0 0,.int .i64 0] 58)).drew.cell? ⟨w.heap.size,0,none⟩=_:=q0;have d1:(w.alloc (.cells #[.slice none 0 0,.int .i64 0] 58)).drew.cell? ⟨w.heap.size,1,none⟩=_:=q1;refine bodyPost_ret (v:=.tuple #[zProg,errE (adr 18)]) (by simp[results,Tryz.results14,go_sem,d0,d1,zProg,errE]) rfl ?_;refine⟨HB0.out.drew,?_⟩;rw[HL.out];rfl
 ·have hF:Few Os:=⟨by omega,HZ.out⟩;have HF:=hid hF;have i8:¬(8:Int)<(Os.length:Int):=by omega
  have hL0:=lnk_few (entry:=entry) h8;have HU:Hid (∀X,Below w.heap.size w X->Calls Tryz.prog 24 #[.slice p Os.length cap] X λe w'=>e=.returned (errK adr 0 (fstF (λ_ O=>!okO O) Os 0))∧Below X.heap.size X w'):=λX hb=>unsound_any Os _ X adr (HO.out X hb) (HT.out X hb) (HS.out X hb);clear hF;cases hB:fstF (λ_ O=>!okO O) Os 0 with
  |some k=>
   have HL:Hid (lnkE Os entry=some (0,k)):=by show _=_;rw[hL0,hB];rfl
   rw[hB]at HU;simp only[errK,errF]at HU;clear hL0 hB;go_enter Tryz.func14,Tryz.ntmps14;go_wp2_with (first
    |(go_at_call 24;refine(HU.out _ HB0.out).mono ?_;rintro e w1 ⟨rfl,hb1⟩;have HB1:=hid (HB0.out.trans (hb1.mono (by simp)):Below w.heap.size w w1);have hr1:=HR0.out.keep hb1;have HR1:=hid hr1;obtain⟨s0,s1,sf⟩:=hr1;have sf0:=sf 0;have sf1:=sf 1;clear hb1 sf))
   obtain⟨q0,q1,-⟩:=HR1.out.put (.slice none 0 0) (.int .i64 0);refine bodyPost_ret (v:=.tuple #[zProg,errF (adr 0) 0 (k:Int)]) (by simp[results,Tryz.results14,go_sem,q0,q1,zProg,errF]) rfl ?_;refine⟨(HB1.out.setCell (Nat.le_refl _) _).setCell (Nat.le_refl _) _,?_⟩;rw[HL.out];rfl
  |none=>
   have hSO:=all_sound hB;have HSO:=hid hSO;rw[hB]at HU hL0;simp only[errK]at HU;rw[tw_dp hSO]at hL0;have HX0:=hid (λX (hb:Below w.heap.size w X)=>exportsOf_any Os _ X adr (HO.out X hb) HF.out (HS.out X hb));clear hSO hB;cases hD:fstF (dpB Os) Os 0 with
   |some k=>
    have HL:Hid (lnkE Os entry=some (14,k)):=by show _=_;rw[hL0,hD];rfl
    have HX:Hid (∀X,Below w.heap.size w X->Calls Tryz.prog 25 #[.slice p Os.length cap] X λe w'=>Below X.heap.size X w'∧e=.returned (.tuple #[.map none,errF (adr 14) 0 (k:Int)])):=λX hb=>(HX0.out X hb).mono λe w' hr=>by
     unfold ExpRes at hr;rw[hD]at hr;exact hr
    simp only[errF]at HX;clear hL0 hD HX0;go_enter Tryz.func14,Tryz.ntmps14;go_wp2_with (first
     |(go_at_call 24;refine(HU.out _ HB0.out).mono ?_;rintro e w1 ⟨rfl,hb1⟩;have HB1:=hid (HB0.out.trans (hb1.mono (by simp)):Below w.heap.size w w1);have hr1:=HR0.out.keep hb1;have HR1:=hid hr1;obtain⟨s0,s1,sf⟩:=hr1;have sf0:=sf 0;have sf1:=sf 1;clear hb1 sf)
     |(go_at_call 25;refine(HX.out _ HB1.out).mono ?_;rintro e w2 ⟨hb2,rfl⟩;have HB2:=hid (HB1.out.trans (hb2.mono HB1.out.size):Below w.heap.size w w2);have hr2:=HR1.out.keep hb2;have HR2:=hid hr2;obtain⟨u0,u1,uf⟩:=hr2;have uf0:=uf 0;have uf1:=uf 1;clear hb2 uf))
    obtain⟨q0,q1,-⟩:=HR2.out.put (.slice none 0 0) (.int .i64 0);refine bodyPost_ret (v:=.tuple #[zProg,errF (adr 14) 0 (k:Int)]) (by simp[results,Tryz.results14,go_sem,q0,q1,zProg,errF]) rfl ?_;refine⟨(HB2.out.setCell (Nat.le_refl _) _).setCell (Nat.le_refl _) _,?_⟩;rw[HL.out];rfl
   |none=>
    have HX:Hid (∀X,Below w.heap.size w X->Calls Tryz.prog 25 #[.slice p Os.length cap] X λe w'=>Below X.heap.size X w'∧∃b n,e=.returned (.tuple #[.map (some b),.nilIface])∧XM w' b n (exK Os Os.length)):=λX hb=>(HX0.out X hb).mono λe w' hr=>by
     unfold ExpRes at hr;rw[hD]at hr;exact hr
    rw[hD]at hL0;have HW:Hid (∀X b n,Below w.heap.size w X->XM X b n (exK Os Os.length)->Calls Tryz.prog 26 #[.slice p Os.length cap,.map (some b)] X λe w'=>e=.returned (wiV adr (exK Os Os.length) Os)∧Below X.heap.size X w'):=λX b n hb hx=>wrongImport_any Os _ X adr b n _ (HO.out X hb) hx (HS.out X hb);rw[wi_eq]at HW;clear hD HX0;cases hM:fstF (λ_=>miB Os) Os 0 with
    |some k=>
     have HL:Hid (lnkE Os entry=some (15,k)):=by show _=_;rw[hL0,hM];rfl
     rw[hM]at HW;simp only[errF]at HW;clear hL0 hM;go_enter Tryz.func14,Tryz.ntmps14;go_wp2_with (first
      |(go_at_call 24;refine(HU.out _ HB0.out).mono ?_;rintro e w1 ⟨rfl,hb1⟩;have HB1:=hid (HB0.out.trans (hb1.mono (by simp)):Below w.heap.size w w1);have hr1:=HR0.out.keep hb1;have HR1:=hid hr1;obtain⟨s0,s1,sf⟩:=hr1;have sf0:=sf 0;have sf1:=sf 1;clear hb1 sf)
      |(go_at_call 25;refine(HX.out _ HB1.out).mono ?_;rintro e w2 ⟨hb2,b,n,rfl,hxm⟩;have HB2:=hid (HB1.out.trans (hb2.mono HB1.out.size):Below w.heap.size w w2);have HXM:=hid hxm;have HR2:=hid (HR1.out.keep hb2);clear hb2 hxm)
      |(go_at_call 26;refine(HW.out _ _ _ HB2.out HXM.out).mono ?_;rintro e w3 ⟨rfl,hb3⟩;have HB3:=hid (HB2.out.trans (hb3.mono HB2.out.size):Below w.heap.size w w3);have hr3:=HR2.out.keep hb3;have HR3:=hid hr3;obtain⟨y0,y1,yf⟩:=hr3;have yf0:=yf 0;have yf1:=yf 1;clear hb3 yf))
     obtain⟨q0,q1,-⟩:=HR3.out.put (.slice none 0 0) (.int .i64 0);refine bodyPost_ret (v:=.tuple #[zProg,errF (adr 15) 0 (k:Int)]) (by simp[results,Tryz.results14,go_sem,q0,q1,zProg,errF]) rfl ?_;refine⟨(HB3.out.setCell (Nat.le_refl _) _).setCell (Nat.le_refl _) _,?_⟩;rw[HL.out];rfl
    |none=>
     have HMI:=hid hM;rw[hM]at HW hL0;simp only at HW;clear hM;cases hA:fstF (λ_=>arB2 Os) Os 0 with
     |some k=>
      have HL:Hid (lnkE Os entry=some (16,k)):=by show _=_;rw[hL0,hA];rfl
      rw[hA]at HW;simp only[errK,errF]at HW;clear hL0 hA;go_enter Tryz.func14,Tryz.ntmps14;go_wp2_with (first
       |(go_at_call 24;refine(HU.out _ HB0.out).mono ?_;rintro e w1 ⟨rfl,hb1⟩;have HB1:=hid (HB0.out.trans (hb1.mono (by simp)):Below w.heap.size w w1);have hr1:=HR0.out.keep hb1;have HR1:=hid hr1;obtain⟨s0,s1,sf⟩:=hr1;have sf0:=sf 0;have sf1:=sf 1;clear hb1 sf)
       |(go_at_call 25;refine(HX.out _ HB1.out).mono ?_;rintro e w2 ⟨hb2,b,n,rfl,hxm⟩;have HB2:=hid (HB1.out.trans (hb2.mono HB1.out.size):Below w.heap.size w w2);have HXM:=hid hxm;have HR2:=hid (HR1.out.keep hb2);clear hb2 hxm)
       |(go_at_call 26;refine(HW.out _ _ _ HB2.out HXM.out).mono ?_;rintro e w3 ⟨rfl,hb3⟩;have HB3:=hid (HB2.out.trans (hb3.mono HB2.out.size):Below w.heap.size w w3);have hr3:=HR2.out.keep hb3;have HR3:=hid hr3;obtain⟨y0,y1,yf⟩:=hr3;have yf0:=yf 0;have yf1:=yf 1;clear hb3 yf))
      obtain⟨q0,q1,-⟩:=HR3.out.put (.slice none 0 0) (.int .i64 0);refine bodyPost_ret (v:=.tuple #[zProg,errF (adr 16) 0 (k:Int)]) (by simp[results,Tryz.results14,go_sem,q0,q1,zProg,errF]) rfl ?_;refine⟨(HB3.out.setCell (Nat.le_refl _) _).setCell (Nat.le_refl _) _,?_⟩;rw[HL.out];rfl
     |none=>
      rw[hA]at HW hL0;simp only[errK]at HW;have hL1:lnkE Os entry=lnkX Os entry:=hL0;unfold lnkX at hL1;have HFE:=hid (exK_all Os entry);clear hA hL0;have HIN:Hid (∀X,Below w.heap.size w X->Calls Tryz.prog 27 #[.slice p Os.length cap] X λe w'=>e=.returned (.int .i64 (sz Os:Int))∧Below X.heap.size X w'):=λX hb=>instructions_any Os _ X (HO.out X hb) HF.out λO hO g hg=>((HSO.out O hO).ne g hg).2;cases hE:expo Os entry with
      |none=>
       rw[hE]at hL1 HFE;have HL:=hid hL1;clear hL1 hE;go_enter Tryz.func14,Tryz.ntmps14;go_wp2_with (first
        |(go_at_call 24;refine(HU.out _ HB0.out).mono ?_;rintro e w1 ⟨rfl,hb1⟩;have HB1:=hid (HB0.out.trans (hb1.mono (by simp)):Below w.heap.size w w1);have HR1:=hid (HR0.out.keep hb1);clear hb1)
        |(go_at_call 25;refine(HX.out _ HB1.out).mono ?_;rintro e w2 ⟨hb2,b,n,rfl,hxm⟩;have HB2:=hid (HB1.out.trans (hb2.mono HB1.out.size):Below w.heap.size w w2);have HXM:=hid hxm;have HR2:=hid (HR1.out.keep hb2);clear hb2 hxm)
        |(go_at_call 26;refine(HW.out _ _ _ HB2.out HXM.out).mono ?_;rintro e w3 ⟨rfl,hb3⟩;have HB3:=hid (HB2.out.trans (hb3.mono HB2.out.size):Below w.heap.size w w3);have HR3:=hid (HR2.out.keep hb3);have hxm3:=HXM.out.keep hb3;have HXM3:=hid hxm3;have hlk:=hxm3.look entry he;rw[HFE.out]at hlk;simp only[xmV,xmP,Option.isSome_none,Option.map_none]at hlk;obtain⟨y0,y1,yf⟩:=HR3.out.keep ((Below.refl _ _).alloc (Nat.le_refl _) (.cells #[.int .i64 0,.int .i64 0] 97));have yf0:=yf 0;have yf1:=yf 1;have hce:=((HS.out _ HB3.out).keep ((Below.refl _ _).alloc (Nat.le_refl _) (.cells #[.int .i64 0,.int .i64 0] 97))).c 17 (by omega);simp only[errE,kNum,List.getD_cons_succ,List.getD_cons_zero]at hce;have hce1:=λx=>(World.cell?_setCell_far (w3.alloc (.cells #[.int .i64 0,.int .i64 0] 97)) ⟨w.heap.size,0,none⟩ ⟨1,0,none⟩ x (by simp;omega)).trans hce;clear hb3 yf hxm3))
       go_region
       all_goals(try go_wp2)
       all_goals
        obtain⟨q0,q1,-⟩:=(R2.put (HR3.out.keep ((Below.refl _ _).alloc (Nat.le_refl _) (.cells #[.int .i64 0,.int .i64 0] 97))) (.slice none 0 0) (.int .i64 0)).drew;refine bodyPost_ret (v:=.tuple #[zProg,errE (adr 17)]) (by simp[results,Tryz.results14,go_sem,q0,q1,zProg,errE]) rfl ?_;refine⟨(((HB3.out.alloc HB3.out.size _).setCell (Nat.le_refl _) _).setCell (Nat.le_refl _) _).drew,?_⟩;rw[HL.out];rfl
      |some r=>
       obtain⟨n,who,a⟩:=r;rw[hE]at hL1 HFE;have HIE:Hid (imgE Os entry=(n:Int)):=by show _=_;unfold imgE;rw[hE]
       simp only[Option.map_some]at HFE;change lnkE Os entry=(if a≠0 then some (17,0) else if 200000<sz Os then some (18,0) else none) at hL1;by_cases ha:a=0
       ·subst ha;rw[if_neg (by simp)]at hL1;by_cases hbig:200000<sz Os
        ·rw[if_pos hbig]at hL1;have HL:=hid hL1;have ib:(200000:Int)<(sz Os:Int):=by omega
         clear hL1 hE;go_enter Tryz.func14,Tryz.ntmps14;go_wp2_with (first
          |(go_at_call 24;refine(HU.out _ HB0.out).mono ?_;rintro e w1 ⟨rfl,hb1⟩;have HB1:=hid (HB0.out.trans (hb1.mono (by simp)):Below w.heap.size w w1);have HR1:=hid (HR0.out.keep hb1);clear hb1)
          |(go_at_call 25;refine(HX.out _ HB1.out).mono ?_;rintro e w2 ⟨hb2,b,nx,rfl,hxm⟩;have HB2:=hid (HB1.out.trans (hb2.mono HB1.out.size):Below w.heap.size w w2);have HXM:=hid hxm;have HR2:=hid (HR1.out.keep hb2);clear hb2 hxm)
          |(go_at_call 26;refine(HW.out _ _ _ HB2.out HXM.out).mono ?_;rintro e w3 ⟨rfl,hb3⟩;have HB3:=hid (HB2.out.trans (hb3.mono HB2.out.size):Below w.heap.size w w3);have HR3:=hid (HR2.out.keep hb3);have hxm3:=HXM.out.keep hb3;have HXM3:=hid hxm3;have hlk:=hxm3.look entry he;rw[HFE.out]at hlk;simp only[xmV,xmP,Option.isSome_some]at hlk;obtain⟨y0,y1,yf⟩:=HR3.out.keep ((Below.refl _ _).alloc (Nat.le_refl _) (.cells #[.int .i64 (n:Int),.int .i64 0] 97));have yf0:=yf 0;have yf1:=yf 1;have hce:=((HS.out _ HB3.out).keep ((Below.refl _ _).alloc (Nat.le_refl _) (.cells #[.int .i64 (n:Int),.int .i64 0] 97))).c 17 (by omega);simp only[errE,kNum,List.getD_cons_succ,List.getD_cons_zero]at hce;have hce1:=λx=>(World.cell?_setCell_far (w3.alloc (.cells #[.int .i64 (n:Int),.int .i64 0] 97)) ⟨w.heap.size,0,none⟩ ⟨1,0,none⟩ x (by simp;omega)).trans hce;clear hb3 yf hxm3)
          |(go_at_call 27;refine(HIN.out _ (HB3.out.alloc HB3.out.size _)).mono ?_;rintro e w4 ⟨rfl,hb4⟩;have HB4:=hid ((HB3.out.alloc HB3.out.size _).trans (hb4.mono (by have:=HB3.out.size;simp;omega)):Below w.heap.size w w4);have hr4:=(HR3.out.keep ((Below.refl _ _).alloc (Nat.le_refl _) _)).keep hb4;have HR4:=hid hr4;have HF4:=hid ((R2.new w3 (.int .i64 (n:Int)) (.int .i64 0) 97).keep hb4);obtain⟨z0,z1,zf⟩:=hr4;have zf0:=zf 0;have zf1:=zf 1;have hcb:=(HS.out _ HB4.out).c 18 (by omega);simp only[errE,kNum,List.getD_cons_succ,List.getD_cons_zero]at hcb;have hcb1:=λx=>(World.cell?_setCell_far w4 ⟨w.heap.size,0,none⟩ ⟨0,0,none⟩ x (by show w.heap.size≠0;omega)).trans hcb;have HXM4:=hid ((HXM3.out.keep ((Below.refl _ _).alloc (Nat.le_refl _) _)).keep hb4);clear hb4 zf))
         go_region
         all_goals(try go_wp2)
         all_goals
          obtain⟨q0,q1,-⟩:=(R2.put HR4.out (.slice none 0 0) (.int .i64 0)).drew;refine bodyPost_ret (v:=.tuple #[zProg,errE (adr 18)]) (by simp[results,Tryz.results14,go_sem,q0,q1,zProg,errE]) rfl ?_;refine⟨((HB4.out.setCell (Nat.le_refl _) _).setCell (Nat.le_refl _) _).drew,?_⟩;rw[HL.out];rfl
        ·rw[if_neg hbig]at hL1;have HL:=hid hL1;have ib:¬(200000:Int)<(sz Os:Int):=by omega
         have HGO:Hid (∀X b nx,Below w.heap.size w X->XM X b nx (exK Os Os.length)->Calls Tryz.prog 28 #[.slice p Os.length cap,.map (some b)] X λe w'=>Below X.heap.size X w'∧∃p n c,e=.returned (.slice p n c)∧MGAt X.heap.size w' (.slice p n c) (img Os)):=λX b nx hb hx=>by
          have h1:=globalsOf_any Os _ b nx _ X (HO.out X hb) hx HF.out (λO hO g hg=>((HSO.out O hO).ne g hg).2) (Nat.le_trans (sz_base HSO.out) (by omega)) λO hO=>(HSO.out O hO).ix;have h2:img Os=gofF (exK Os Os.length) Os 0:=img_same λO hO=>⟨HSO.out O hO,by
           obtain⟨i,hi,rfl⟩:=List.getElem_of_mem hO;exact fstF_none HMI.out i hi⟩
          rw[h2];exact h1
         clear hL1 hE;go_enter Tryz.func14,Tryz.ntmps14;go_upto_region 17 with(first
          |(go_at_call 24;refine(HU.out _ HB0.out).mono ?_;rintro e w1 ⟨rfl,hb1⟩;have HB1:=hid (HB0.out.trans (hb1.mono (by simp)):Below w.heap.size w w1);have HR1:=hid (HR0.out.keep hb1);clear hb1)
          |(go_at_call 25;refine(HX.out _ HB1.out).mono ?_;rintro e w2 ⟨hb2,b,nx,rfl,hxm⟩;have HB2:=hid (HB1.out.trans (hb2.mono HB1.out.size):Below w.heap.size w w2);have HXM:=hid hxm;have HR2:=hid (HR1.out.keep hb2);clear hb2 hxm)
          |(go_at_call 26;refine(HW.out _ _ _ HB2.out HXM.out).mono ?_;rintro e w3 ⟨rfl,hb3⟩;have HB3:=hid (HB2.out.trans (hb3.mono HB2.out.size):Below w.heap.size w w3);have HR3:=hid (HR2.out.keep hb3);have hxm3:=HXM.out.keep hb3;have HXM3:=hid hxm3;have hlk:=hxm3.look entry he;rw[HFE.out]at hlk;simp only[xmV,xmP,Option.isSome_some]at hlk;obtain⟨y0,y1,yf⟩:=HR3.out.keep ((Below.refl _ _).alloc (Nat.le_refl _) (.cells #[.int .i64 (n:Int),.int .i64 0] 97));have yf0:=yf 0;have yf1:=yf 1;have hce:=((HS.out _ HB3.out).keep ((Below.refl _ _).alloc (Nat.le_refl _) (.cells #[.int .i64 (n:Int),.int .i64 0] 97))).c 17 (by omega);simp only[errE,kNum,List.getD_cons_succ,List.getD_cons_zero]at hce;have hce1:=λx=>(World.cell?_setCell_far (w3.alloc (.cells #[.int .i64 (n:Int),.int .i64 0] 97)) ⟨w.heap.size,0,none⟩ ⟨1,0,none⟩ x (by simp;omega)).trans hce;clear hb3 yf hxm3)
          |(go_at_call 27;refine(HIN.out _ (HB3.out.alloc HB3.out.size _)).mono ?_;rintro e w4 ⟨rfl,hb4⟩;have HB4:=hid ((HB3.out.alloc HB3.out.size _).trans (hb4.mono (by have:=HB3.out.size;simp;omega)):Below w.heap.size w w4);have hr4:=(HR3.out.keep ((Below.refl _ _).alloc (Nat.le_refl _) _)).keep hb4;have HR4:=hid hr4;have HF4:=hid ((R2.new w3 (.int .i64 (n:Int)) (.int .i64 0) 97).keep hb4);obtain⟨z0,z1,zf⟩:=hr4;have zf0:=zf 0;have zf1:=zf 1;have hcb:=(HS.out _ HB4.out).c 18 (by omega);simp only[errE,kNum,List.getD_cons_succ,List.getD_cons_zero]at hcb;have hcb1:=λx=>(World.cell?_setCell_far w4 ⟨w.heap.size,0,none⟩ ⟨0,0,none⟩ x (by show w.heap.size≠0;omega)).trans hcb;have HXM4:=hid ((HXM3.out.keep ((Below.refl _ _).alloc (Nat.le_refl _) _)).keep hb4);clear hb4 zf))
         have hne:w.heap.size<w3.heap.size:=HR3.out.lt;have t0:w4.drew.cell? ⟨w3.heap.size,0,none⟩=some (.int .i64 (n:Int)):=HF4.out.c0;have HG4:=hid (HGO.out w4.drew b nx HB4.out.drew (HXM4.out.keep (Below.refl _ _).drew));have HR4D:=hid HR4.out.drew;have hz4:=HB4.out.size;have hw4:w.heap.size<w4.drew.heap.size:=HR4D.out.lt;clear hlk;go_region_held_law (λw'=>w'.cell? ⟨w3.heap.size,0,none⟩=some (.int .i64 (n:Int))) (first|assumption|(rw[World.cell?_setCell_far _ _ _ _ (by simp;omega),World.cell?_setCell_far _ _ _ _ (by simp;omega)];assumption))
          (first
           |(go_at_call 28;refine HG4.out.mono ?_;rintro e w5 ⟨hb5,gp,gn,gc,rfl,hmg⟩;have t5:=cell_keep hb5 t0;have HB5:=hid (HB4.out.drew.trans (hb5.mono hz4):Below w.heap.size w w5);have hr5:=HR4D.out.keep hb5;have HR5:=hid hr5;obtain⟨x0,x1,xf⟩:=hr5;have xf0:=xf 0;have xf1:=xf 1;have HMG:=hid hmg;clear hb5 hmg xf))
         all_goals(try go_wp2)
         all_goals
          obtain⟨q0,q1,-⟩:=HR5.out.put (.slice gp gn gc) (.int .i64 (n:Int));refine bodyPost_ret (v:=.tuple #[.agg #[.slice gp gn gc,.int .i64 (n:Int)],.nilIface]) (by simp[results,Tryz.results14,go_sem,q0,q1]) rfl ?_;refine⟨(HB5.out.setCell (Nat.le_refl _) _).setCell (Nat.le_refl _) _,?_⟩;rw[HL.out];exact⟨gp,gn,gc,by rw[HIE.out],((HMG.out.set hw4 _).set hw4 _).low (Nat.le_of_lt hw4)⟩
       ·rw[if_pos ha]at hL1;have HL:=hid hL1;clear hL1 hE;go_enter Tryz.func14,Tryz.ntmps14;go_wp2_with (first
         |(go_at_call 24;refine(HU.out _ HB0.out).mono ?_;rintro e w1 ⟨rfl,hb1⟩;have HB1:=hid (HB0.out.trans (hb1.mono (by simp)):Below w.heap.size w w1);have HR1:=hid (HR0.out.keep hb1);clear hb1)
         |(go_at_call 25;refine(HX.out _ HB1.out).mono ?_;rintro e w2 ⟨hb2,b,nx,rfl,hxm⟩;have HB2:=hid (HB1.out.trans (hb2.mono HB1.out.size):Below w.heap.size w w2);have HXM:=hid hxm;have HR2:=hid (HR1.out.keep hb2);clear hb2 hxm)
         |(go_at_call 26;refine(HW.out _ _ _ HB2.out HXM.out).mono ?_;rintro e w3 ⟨rfl,hb3⟩;have HB3:=hid (HB2.out.trans (hb3.mono HB2.out.size):Below w.heap.size w w3);have HR3:=hid (HR2.out.keep hb3);have hxm3:=HXM.out.keep hb3;have HXM3:=hid hxm3;have hlk:=hxm3.look entry he;rw[HFE.out]at hlk;simp only[xmV,xmP,Option.isSome_some]at hlk;obtain⟨y0,y1,yf⟩:=HR3.out.keep ((Below.refl _ _).alloc (Nat.le_refl _) (.cells #[.int .i64 (n:Int),.int .i64 a] 97));have yf0:=yf 0;have yf1:=yf 1;have hce:=((HS.out _ HB3.out).keep ((Below.refl _ _).alloc (Nat.le_refl _) (.cells #[.int .i64 (n:Int),.int .i64 a] 97))).c 17 (by omega);simp only[errE,kNum,List.getD_cons_succ,List.getD_cons_zero]at hce;have hce1:=λx=>(World.cell?_setCell_far (w3.alloc (.cells #[.int .i64 (n:Int),.int .i64 a] 97)) ⟨w.heap.size,0,none⟩ ⟨1,0,none⟩ x (by simp;omega)).trans hce;clear hb3 yf hxm3))
        go_region
        all_goals(try go_wp2)
        all_goals
         obtain⟨q0,q1,-⟩:=(R2.put (HR3.out.keep ((Below.refl _ _).alloc (Nat.le_refl _) (.cells #[.int .i64 (n:Int),.int .i64 a] 97))) (.slice none 0 0) (.int .i64 0)).drew;refine bodyPost_ret (v:=.tuple #[zProg,errE (adr 17)]) (by simp[results,Tryz.results14,go_sem,q0,q1,zProg,errE]) rfl ?_;refine⟨(((HB3.out.alloc HB3.out.size _).setCell (Nat.le_refl _) _).setCell (Nat.le_refl _) _).drew,?_⟩;rw[HL.out];rfl
theorem lnkX_kind{Os:List LObj}{entry:ByteArray}{x:Nat×Nat}(h:lnkX Os entry=some x):x=(17,0)∨x=(18,0):=by
 unfold lnkX at h;split at h
 ·cases h;exact Or.inl rfl
 ·split at h
  ·cases h;exact Or.inl rfl
  ·split at h
   ·cases h;exact Or.inr rfl
   ·cases h
theorem lnk_kind{Os:List LObj}{entry:ByteArray}{x:Nat×Nat}(h:lnkE Os entry=some x):(x=(17,0)∨x=(18,0))∨((x.1=0∨x.1=14∨x.1=15∨x.1=16)∧x.2<Os.length):=by
 unfold lnkE at h;split at h
 ·cases h;exact Or.inl (Or.inr rfl)
 ·unfold orE at h;split at h
  ·rename_i k hk;cases h;have:=fstF_ge hk;exact Or.inr ⟨Or.inl rfl,by simpa using this.2⟩
  ·split at h
   ·rename_i k hk;cases h;have:=fstF_ge hk;exact Or.inr ⟨Or.inr (Or.inl rfl),by simpa using this.2⟩
   ·split at h
    ·rename_i k hk;cases h;have:=fstF_ge hk;exact Or.inr ⟨Or.inr (Or.inr (Or.inl rfl)),by simpa using this.2⟩
    ·split at h
     ·rename_i k hk;cases h;have:=fstF_ge hk;exact Or.inr ⟨Or.inr (Or.inr (Or.inr rfl)),by simpa using this.2⟩
     ·exact Or.inl (lnkX_kind h)
theorem lnk_told{w:World}{adr:Nat->Addr}(hS:SentAt w adr){Os:List LObj}{entry:ByteArray}{x:Nat×Nat}(h:lnkE Os entry=some x):(∃t y,lnkV adr x=.iface t y)∧Told w (lnkV adr x) (kCode x.1) 0 (x.2:Int):=by
 rcases lnk_kind h with h1|⟨h1,h2⟩
 ·rcases h1 with rfl|rfl
  ·exact⟨⟨_,_,rfl⟩,told_plain hS 17 (by omega)⟩
  ·exact⟨⟨_,_,rfl⟩,told_plain hS 18 (by omega)⟩
 ·obtain⟨i,k⟩:=x;have e:lnkV adr (i,k)=errF (adr i) 0 (k:Int):=by
   unfold lnkV;rw[if_neg (by simp only at h1 ⊢;omega)]
  rw[e];simp only at h1;exact⟨⟨_,_,rfl⟩,told_fault hS i (by omega) 0 _⟩
def LinkRes(Os:List LObj)(entry:ByteArray)(w:World)(e:Ending)(w':World):Prop:=Below w.heap.size w w'∧match lnkE Os entry with
 |some x=>e=.returned (.tuple #[.pointer none,.int .i64 (kCode x.1),.int .i64 (x.2:Int)])
 |none=>∃I p n c,e=.returned (.tuple #[.pointer (some ⟨I,0,none⟩),.int .i64 0,.int .i64 0])∧w.heap.size<=I∧R2 w' I (.slice p n c) (.int .i64 (imgE Os entry))∧MGAt w.heap.size w' (.slice p n c) (img Os)
theorem fldP1(x y:Value)(w:World):Sem.run Tryz.prog (Instr.field 52 (.agg #[x,y]) 1) w=.ok y w:=by kernel_rfl
theorem tarnLink_any(Os:List LObj)(v:Value)(entry:ByteArray)(w:World)(adr:Nat->Addr)(h:ObjsAt w v Os)(hZ:Szd Os)(he:entry.size<=maxLen)(hT:TabAt w)(hS:SentAt w adr):
 Calls Tryz.prog 6 #[v,.string entry] w λe w'=>LinkRes Os entry w e w':=by
 have HO:=hid (objects_any Os v entry w adr h hZ he hT hS);obtain⟨p,cap,rfl,-⟩:=id h;have F1:=fldP1;cases hL:lnkE Os entry with
 |some x=>
  obtain⟨⟨et,ey,hv⟩,-⟩:=lnk_told (adr:=adr) hS hL;have HOS:Hid (Calls Tryz.prog 14 #[.slice p Os.length cap,.string entry] w λe w'=>e=.returned (.tuple #[.agg #[.slice none 0 0,.int .i64 0],.iface et ey])∧Below w.heap.size w w'):=HO.out.mono λe w' hr=>by
   obtain⟨h1,h2⟩:=hr;rw[hL]at h2;rw[<-hv];exact⟨h2,h1⟩
  have HTD:=hid (λw1 (hb:Below w.heap.size w w1)=>hv▸(lnk_told (adr:=adr) (hS.keep hb) hL).2);have HL:=hid hL;clear h hT hS HO hL hv;go_enter Tryz.func6,Tryz.ntmps6;go_wp2_with (first
   |(go_at_call 14;refine HOS.out.mono ?_;rintro e w1 ⟨rfl,hb1⟩;have HB1:=hid hb1;have HTW:=hid (HTD.out w1 hb1);clear hb1)
   |(go_at_call 15;refine(HTW.out.kind _ ((Below.refl _ _).alloc (Nat.le_refl _) _)).mono ?_;rintro e w3 ⟨rfl,hb3⟩;have HB3:=hid (((Below.refl _ _).alloc (Nat.le_refl _) _).trans (hb3.mono (by simp)):Below w1.heap.size w1 w3);clear hb3)
   |(go_at_call 16;refine(HTW.out.place _ HB3.out).mono ?_;rintro e w5 ⟨rfl,hb5⟩;have HB5:=hid (HB1.out.trans ((HB3.out.trans (hb5.mono HB3.out.size)).mono HB1.out.size));clear hb5))
  go_ret3
  refine⟨HB5.out,?_⟩;rw[HL.out];rfl
 |none=>
  have HOS:Hid (Calls Tryz.prog 14 #[.slice p Os.length cap,.string entry] w λe w'=>∃gp gn gc,e=.returned (.tuple #[.agg #[.slice gp gn gc,.int .i64 (imgE Os entry)],.nilIface])∧Below w.heap.size w w'∧Hid (MGAt w.heap.size w' (.slice gp gn gc) (img Os))):=HO.out.mono λe w' hr=>by
   obtain⟨h1,h2⟩:=hr;rw[hL]at h2;obtain⟨a,b,c,h2,h3⟩:=h2;exact⟨a,b,c,h2,h1,h3⟩
  have HL:=hid hL;clear h hT hS HO hL;go_enter Tryz.func6,Tryz.ntmps6;go_wp2_with (first
   |(go_at_call 14;refine HOS.out.mono ?_;rintro e w1 ⟨gp,gn,gc,rfl,hb1,HMG⟩;have HB1:=hid hb1;clear hb1))
  go_ret3
  have hz:=HB1.out.size;refine⟨(HB1.out.alloc hz _).alloc (by simp;omega) _,?_⟩;rw[HL.out];have hr:=R2.new (w1.alloc (.cells #[.slice gp gn gc,.int .i64 (imgE Os entry)] 58)) (.slice gp gn gc) (.int .i64 (imgE Os entry)) 66;rw[World.size_alloc]at hr;exact⟨_,gp,gn,gc,rfl,by omega,hr,(HMG.out.keep ((Below.refl _ _).alloc (Nat.le_refl _) _)).keep ((Below.refl _ _).alloc (Nat.le_refl _) _)⟩
end Go.Proofs.YtahmgjjgikgpoaaGreatDoor
