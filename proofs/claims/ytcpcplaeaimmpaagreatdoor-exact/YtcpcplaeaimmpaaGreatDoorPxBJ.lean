import Derived.Test.YtcpcplaeaimmpaaGreatDoorPx8J
set_option maxRecDepth 100000
set_option maxHeartbeats 8000000
namespace Go.Proofs.YtcpcplaeaimmpaaGreatDoor
open Go.RowKit Go.Sort
def NmAt(w:World)(v:Value)(l:Nms):Prop:=∃p c,v=.slice p l.length c∧(l≠[]->∃g o,p=some ⟨g,o,none⟩∧g<w.heap.size∧∀i (hi:i<l.length),w.cell? ⟨g,o+i*2,none⟩=some (.string l[i].1)∧w.cell? ⟨g,o+i*2+1,none⟩=some (.int .i64 (l[i].2:Int)))
theorem NmAt.keep{w w':World}{v:Value}{l:Nms}(h:NmAt w v l)(hb:Below w.heap.size w w'):NmAt w' v l:=by
 obtain⟨p,c,rfl,hc⟩:=h;refine⟨p,c,rfl,λhl=>?_⟩;obtain⟨g,o,rfl,hg,hx⟩:=hc hl;exact⟨g,o,rfl,Nat.lt_of_lt_of_le hg hb.size,λi hi=>⟨cell_keep hb (hx i hi).1,cell_keep hb (hx i hi).2⟩⟩
theorem fldN0(x y:Value)(w:World):Sem.run Tryz.prog (Instr.field 170 (.agg #[x,y]) 0) w=.ok x w:=by kernel_rfl
theorem hasC_any(x t:ByteArray)(n:Int)(b:Nat)(w:World)(h:w.cell? ⟨b,0,none⟩=some (.string t)):Calls Tryz.prog 145 #[.agg #[.string x,.int .i64 n],.pointer (some ⟨b,0,none⟩)] w λe w'=>e=.returned (.bool (decide (x=t)))∧Below w.heap.size w w':=by
 have F:=fldN0;have HL:=hid (lit_beq x t);have h2:=λo=>cell_keep ((Below.refl w.heap.size w).alloc (Nat.le_refl _) o) h;go_enter Tryz.func145,Tryz.ntmps145;go_wp2;go_ret;exact⟨ret_b HL.out.symm,(Below.refl _ _).alloc (Nat.le_refl _) _⟩
def nmC2(x:ByteArray×Nat):List Value:=[.string x.1,.int .i64 (x.2:Int)]
theorem containsF_any(l:Nms)(v:Value)(t:ByteArray)(b:Nat)(w:World)(hl:l.length<=100000)(h:NmAt w v l)(ht:w.cell? ⟨b,0,none⟩=some (.string t)):
 Calls Tryz.prog 144 #[v,.func (.func 145) #[] #[.pointer (some ⟨b,0,none⟩)]] w λe w'=>e=.returned (.bool (inB t (l.map (·.1)) 0))∧Below w.heap.size w w':=by
 obtain⟨p,c,rfl,hc⟩:=h;by_cases h0:l=[]
 ·subst h0;clear hc;go_enter Tryz.func144,Tryz.ntmps144;go_wp2_with (go_in)
  go_loop [8] (λi=>i=.int .i64 0) (λ_=>0)
  case atStart=>rfl
  case round=>
   obtain rfl:=hrel;go_wp2;go_ret;exact⟨ret_b rfl,Below.refl _ _⟩
 ·obtain⟨g,o,rfl,hg,hx⟩:=hc h0;have hr:=AnyQ.slices_ContainsFunc (α:=ByteArray×Nat) Tryz.laysCF 2 (by intro w;kernel_rfl) (by intro w;kernel_rfl) nmC2 (λ_=>rfl) (λx=>decide (x.1=t)) 145 #[.pointer (some ⟨b,0,none⟩)] (by intro args w;kernel_rfl) g o l.length c l w (λW x hb=>by
   have:=hasC_any x.1 t (x.2:Int) b W (cell_keep hb ht);exact this.mono λ_ _ ⟨h1,h2⟩=>⟨h1,hb.trans (h2.mono hb.size)⟩) (Nat.le_refl _) (by omega) hg (by
   intro j hj i u hu;have hx':=hx j hj;have ej:l[j]!=l[j]:=by rw[getElem!_pos l j hj]
   rw[ej]at hu;match i,hu with
   |0,hu=>cases hu;exact hx'.1
   |1,hu=>cases hu;exact hx'.2
   |i+2,hu=>cases hu)
  refine hr.mono ?_;rintro e w' ⟨rfl,hb⟩;refine⟨ret_b ?_,hb⟩;unfold inB;rw[List.take_length,List.drop_zero,List.any_map];rfl
theorem Has_any(l:Nms)(v:Value)(t:ByteArray)(w:World)(hl:l.length<=100000)(h:NmAt w v l):
 Calls Tryz.prog 110 #[v,.string t] w λe w'=>e=.returned (.bool (inB t (l.map (·.1)) 0))∧Below w.heap.size w w':=by
 obtain⟨p,c,rfl,-⟩:=id h;have HC:Hid (Calls Tryz.prog 144 #[.slice p l.length c,.func (.func 145) #[] #[.pointer (some ⟨w.heap.size,0,none⟩)]] (w.alloc (.cells #[.string t] 9)) λe w'=>e=.returned (.bool (inB t (l.map (·.1)) 0))∧Below w.heap.size w w'):=by
  have hb:Below w.heap.size w (w.alloc (.cells #[.string t] 9)):=(Below.refl _ _).alloc (Nat.le_refl _) _;exact(containsF_any l _ t w.heap.size _ hl (h.keep hb) (by simp)).mono λ_ _ ⟨h1,h2⟩=>⟨h1,hb.trans (h2.mono (by simp))⟩
 clear h;generalize l.length=n at*;generalize inB t (l.map (·.1)) 0=r at*;go_enter Tryz.func110,Tryz.ntmps110;go_wp2_with (first
  |(go_at_call 144;refine HC.out.mono ?_;rintro e w1 ⟨rfl,hb1⟩))
 go_ret;exact⟨rfl,hb1⟩
def V2(w:World)(b:Nat)(x y:Value):Prop:=w.cell? ⟨b,0,none⟩=some x∧w.cell? ⟨b,1,none⟩=some y∧w.frozen? ⟨b,0,none⟩=false∧w.frozen? ⟨b,1,none⟩=false
theorem V2.lt{w:World}{b:Nat}{x y:Value}(h:V2 w b x y):b<w.heap.size:=block_lt_of_cell h.1
theorem V2.keep{w w':World}{b:Nat}{x y:Value}(h:V2 w b x y)(hb:Below w.heap.size w w'):V2 w' b x y:=by
 have e:=hb.block b h.lt;exact⟨cell_keep hb h.1,cell_keep hb h.2.1,by rw[World.frozen?_of_block (a:=⟨b,0,none⟩) e];exact h.2.2.1,by rw[World.frozen?_of_block (a:=⟨b,1,none⟩) e];exact h.2.2.2⟩
theorem V2.ef{w w':World}{b P:Nat}{x y:Value}(h:V2 w b x y)(hE:EF P w w')(hn:b≠P):V2 w' b x y:=by
 have e:=hE.block b h.lt hn;exact⟨by rw[World.cell?_of_block (a:=⟨b,0,none⟩) e];exact h.1,by rw[World.cell?_of_block (a:=⟨b,1,none⟩) e];exact h.2.1,by rw[World.frozen?_of_block (a:=⟨b,0,none⟩) e];exact h.2.2.1,by rw[World.frozen?_of_block (a:=⟨b,1,none⟩) e];exact h.2.2.2⟩
theorem V2.put{w:World}{b:Nat}{x y:Value}(h:V2 w b x y)(u v:Value):V2 ((w.setCell ⟨b,0,none⟩ u).setCell ⟨b,1,none⟩ v) b u v:=by
 have h1:(w.setCell ⟨b,0,none⟩ u).cell? ⟨b,1,none⟩=some y:=by rw[World.cell?_setCell_other _ _ _ _ (off_ne (by omega))];exact h.2.1
 refine⟨?_,World.cell?_setCell_same _ _ _ h1,?_,?_⟩
 ·rw[World.cell?_setCell_other _ _ _ _ (off_ne (by omega))];exact World.cell?_setCell_same _ _ _ h.1
 ·rw[World.frozen?_setCell,World.frozen?_setCell];exact h.2.2.1
 ·rw[World.frozen?_setCell,World.frozen?_setCell];exact h.2.2.2
theorem V2.far{w:World}{b c j:Nat}{x y u:Value}(h:V2 w b x y)(hn:b≠c):V2 (w.setCell ⟨c,j,none⟩ u) b x y:=by
 refine⟨?_,?_,?_,?_⟩
 ·rw[World.cell?_setCell_other _ _ _ _ (by intro e;cases e;exact hn rfl)];exact h.1
 ·rw[World.cell?_setCell_other _ _ _ _ (by intro e;cases e;exact hn rfl)];exact h.2.1
 ·rw[World.frozen?_setCell];exact h.2.2.1
 ·rw[World.frozen?_setCell];exact h.2.2.2
def pNew(s:ByteArray)(others:List ByteArray)(p:Nat):Pr (ByteArray×Nat):=pb (pName s p) λx q=>if inB x.1 others 0=true then .error (5,x.2) else .ok (x,q)
theorem pNew_bad{s:ByteArray}{others:List ByteArray}{p:Nat}(h:wordB (tokT s p)=false):pNew s others p=.error (2,tokA s p):=by unfold pNew pName;rw[if_neg (by simp[h]),pb_err]
theorem pNew_two{s:ByteArray}{others:List ByteArray}{p:Nat}(h:wordB (tokT s p)=true)(h2:inB (tokT s p) others 0=true):pNew s others p=.error (5,tokA s p):=by unfold pNew pName;rw[if_pos h,pb_ok,if_pos h2]
theorem pNew_ok{s:ByteArray}{others:List ByteArray}{p:Nat}(h:wordB (tokT s p)=true)(h2:inB (tokT s p) others 0=false):pNew s others p=.ok ((tokT s p,tokA s p),nxt s p):=by unfold pNew pName;rw[if_pos h,pb_ok,if_neg (by simp[h2])]
theorem word_ne{t:ByteArray}(h:wordB t=true):t≠⟨#[]⟩:=λe=>by rw[e,wordB_empty]at h;cases h
theorem newName_any'{B w:World}{P W:Nat}{adr:Nat->Addr}{s:ByteArray}{p nest:Nat}{gv v:Value}(l:Nms)(hs:s.size<=2000)(hl:l.length<=100000)(hB:PB B w P adr)(h:PS w P W s p gv nest)(hp:p<=s.size)(hN:NmAt w v l):
 Calls Tryz.prog 66 #[.pointer (some ⟨P,0,none⟩),v] w λe w'=>PRes (pNew s (l.map (·.1)) p) P w adr (.agg #[.string ⟨#[]⟩,.int .i64 0]) (λx q v w'=>v=.agg #[.string x.1,.int .i64 (x.2:Int)]∧q<=s.size∧PS w' P W s q gv nest) e w'∧(∀c a,pNew s (l.map (·.1)) p=.error (c,a)->Below w.heap.size w w'):=by
 obtain⟨np,nc,rfl,-⟩:=id hN;have HP:=hid (λw1 (hb:Below w.heap.size w w1)=>peek_any (h.below hb) hp);have HS:=hid h;have HSY:=hid hB.sy;have HN:=hid hN;have hz:=tokT_small hp hs;have F0:=fldW0;have F1:=fldW1;have hPl:=h.lt;have hWl:=h.wlt;clear h hB hN;have HB0:Hid (∀o,Below w.heap.size w (w.alloc o)):=λo=>(Below.refl _ _).alloc (Nat.le_refl _) _;have HR0:Hid (V2 (w.alloc (.cells #[.string ⟨#[]⟩,.int .i64 0] 170)) w.heap.size (.string ⟨#[]⟩) (.int .i64 0)):=⟨by simp,by simp,by simp,by simp⟩;cases hw:wordB (tokT s p) with
 |false=>
  have HT:=hid (pNew_bad (others:=l.map (·.1)) hw);have HW:=hid hw;clear hw;go_enter Tryz.func66,Tryz.ntmps66;go_wp2_with (first
   |(go_at_call 67;refine(HP.out _ (HB0.out _)).mono ?_;rintro e w1 ⟨rfl,hb1⟩;have HB1:Hid (Below w.heap.size w w1):=(HB0.out _).trans (hb1.mono (by simp));have HX:Hid (∀o,Below w.heap.size w (w1.alloc o)):=(λo=>HB1.out.alloc HB1.out.size _);have sy1:=λo=>(HSY.out.keep (HX.out o)).sy;have HR1:=hid (HR0.out.keep hb1);clear hb1)
   |(go_at_call 109;refine(synName_any _ _ hz).mono ?_;rintro e w' ⟨rfl,rfl⟩;rw[HW.out])
   |(go_at_call 108;refine(pwrong_any adr 12 (HS.out.below (HX.out _)) hp).mono ?_;rintro e w3 ⟨rfl,hb3⟩;have HB3:Hid (Below w.heap.size w w3):=(HX.out _).trans (hb3.mono (HX.out _).size);have HR3:=hid ((HR1.out.keep ((Below.refl _ _).alloc (Nat.le_refl _) _)).keep hb3);obtain⟨p0,p1,p2,p3⟩:=id HR3.out;clear hb3))
  obtain⟨s0,s1,-,-⟩:=HR3.out.put (.string ⟨#[]⟩) (.int .i64 0);refine bodyPost_ret (v:=.tuple #[.agg #[.string ⟨#[]⟩,.int .i64 0],pE' adr 12 (tokA s p)]) (by simp[results,Tryz.results66,go_sem,s0,s1]) rfl ?_;exact⟨PRes.bad HT.out (EF.of_below ((HB3.out.setCell (Nat.le_refl _) _).setCell (Nat.le_refl _) _)) rfl,λ_ _ _=>(HB3.out.setCell (Nat.le_refl _) _).setCell (Nat.le_refl _) _⟩
 |true=>
  have HW:=hid hw;cases hi:inB (tokT s p) (l.map (·.1)) 0 with
  |true=>
   have HT:=hid (pNew_two (others:=l.map (·.1)) hw hi);have HI:=hid hi;clear hw hi;go_enter Tryz.func66,Tryz.ntmps66;go_wp2_with (first
    |(go_at_call 67;refine(HP.out _ (HB0.out _)).mono ?_;rintro e w1 ⟨rfl,hb1⟩;have HB1:Hid (Below w.heap.size w w1):=(HB0.out _).trans (hb1.mono (by simp));have HX:Hid (∀o,Below w.heap.size w (w1.alloc o)):=(λo=>HB1.out.alloc HB1.out.size _);have HR1:=hid (HR0.out.keep hb1);clear hb1)
    |(go_at_call 109;refine(synName_any _ _ hz).mono ?_;rintro e w' ⟨rfl,rfl⟩;rw[HW.out])
    |(go_at_call 110;refine(Has_any l _ _ _ hl (HN.out.keep (HX.out _))).mono ?_;rintro e w2 ⟨rfl,hb2⟩;have HB2:Hid (Below w.heap.size w w2):=(HX.out _).trans (hb2.mono (HX.out _).size);have HR2:=hid ((HR1.out.keep ((Below.refl _ _).alloc (Nat.le_refl _) _)).keep hb2);have HV2:Hid (V2 w2 w1.heap.size (.string (tokT s p)) (.int .i64 (tokA s p:Int))):=V2.keep (w:=w1.alloc (.cells #[.string (tokT s p),.int .i64 (tokA s p:Int)] 166)) ⟨by simp,by simp,by simp,by simp⟩ hb2;obtain⟨v0,v1,v2,v3⟩:=id HV2.out;have tw2:=(HSY.out.keep HB2.out).tw;clear hb2;rw[HI.out])
    |(go_at_call 108;refine(pwrong_any adr 14 (HS.out.below HB2.out) hp).mono ?_;rintro e w3 ⟨rfl,hb3⟩;have HB3:Hid (Below w.heap.size w w3):=HB2.out.trans (hb3.mono HB2.out.size);have HR3:=hid (HR2.out.keep hb3);obtain⟨p0,p1,p2,p3⟩:=id HR3.out;clear hb3))
   obtain⟨s0,s1,-,-⟩:=HR3.out.put (.string ⟨#[]⟩) (.int .i64 0);refine bodyPost_ret (v:=.tuple #[.agg #[.string ⟨#[]⟩,.int .i64 0],pE' adr 14 (tokA s p)]) (by simp[results,Tryz.results66,go_sem,s0,s1]) rfl ?_;exact⟨PRes.bad HT.out (EF.of_below ((HB3.out.setCell (Nat.le_refl _) _).setCell (Nat.le_refl _) _)) rfl,λ_ _ _=>(HB3.out.setCell (Nat.le_refl _) _).setCell (Nat.le_refl _) _⟩
  |false=>
   have HT:=hid (pNew_ok (others:=l.map (·.1)) hw hi);have HI:=hid hi;have HNE:=hid (word_ne hw);clear hw hi;go_enter Tryz.func66,Tryz.ntmps66;go_wp2_with (first
    |(go_at_call 67;refine(HP.out _ (HB0.out _)).mono ?_;rintro e w1 ⟨rfl,hb1⟩;have HB1:Hid (Below w.heap.size w w1):=(HB0.out _).trans (hb1.mono (by simp));have HX:Hid (∀o,Below w.heap.size w (w1.alloc o)):=(λo=>HB1.out.alloc HB1.out.size _);have HR1:=hid (HR0.out.keep hb1);clear hb1)
    |(go_at_call 109;refine(synName_any _ _ hz).mono ?_;rintro e w' ⟨rfl,rfl⟩;rw[HW.out])
    |(go_at_call 110;refine(Has_any l _ _ _ hl (HN.out.keep (HX.out _))).mono ?_;rintro e w2 ⟨rfl,hb2⟩;have HB2:Hid (Below w.heap.size w w2):=(HX.out _).trans (hb2.mono (HX.out _).size);have HR2:=hid ((HR1.out.keep ((Below.refl _ _).alloc (Nat.le_refl _) _)).keep hb2);have HV2:Hid (V2 w2 w1.heap.size (.string (tokT s p)) (.int .i64 (tokA s p:Int))):=V2.keep (w:=w1.alloc (.cells #[.string (tokT s p),.int .i64 (tokA s p:Int)] 166)) ⟨by simp,by simp,by simp,by simp⟩ hb2;obtain⟨v0,v1,v2,v3⟩:=id HV2.out;have tw2:=(HSY.out.keep HB2.out).tw;clear hb2;rw[HI.out])
    |(go_at_call 68;refine(skip_any (HS.out.below HB2.out) hp).mono ?_;rintro e w3 ⟨rfl,hE3,hP3⟩;have HE3:=hid ((EF.of_below (E:=P) HB2.out).trans hE3);have HP3:=hid (hP3 HNE.out);have HV3:=hid (HV2.out.ef hE3 (Nat.ne_of_gt (Nat.lt_of_lt_of_le hPl HB1.out.size)));have HR3:=hid (HR2.out.ef hE3 (Nat.ne_of_gt hPl));obtain⟨p0,p1,p2,p3⟩:=id HR3.out;obtain⟨v0,v1,v2,v3⟩:=id HV3.out;clear hE3 hP3))
   obtain⟨s0,s1,-,-⟩:=HR3.out.put (.string (tokT s p)) (.int .i64 (tokA s p:Int));refine bodyPost_ret (v:=.tuple #[.agg #[.string (tokT s p),.int .i64 (tokA s p:Int)],.nilIface]) (by simp[results,Tryz.results66,go_sem,s0,s1]) rfl ?_;refine⟨PRes.ok HT.out ?_ ⟨rfl,nxt_le hp,?_⟩,λc a h=>by rw[HT.out]at h;cases h⟩
   ·exact ef_new (ef_new HE3.out (Nat.le_refl _)) (Nat.le_refl _)
   ·exact(HP3.out.far (Nat.ne_of_gt hPl) (Nat.ne_of_gt hWl)).far (Nat.ne_of_gt hPl) (Nat.ne_of_gt hWl)
theorem newName_any{B w:World}{P W:Nat}{adr:Nat->Addr}{s:ByteArray}{p nest:Nat}{gv v:Value}(l:Nms)(hs:s.size<=2000)(hl:l.length<=100000)(hB:PB B w P adr)(h:PS w P W s p gv nest)(hp:p<=s.size)(hN:NmAt w v l):
 Calls Tryz.prog 66 #[.pointer (some ⟨P,0,none⟩),v] w λe w'=>PRes (pNew s (l.map (·.1)) p) P w adr (.agg #[.string ⟨#[]⟩,.int .i64 0]) (λx q v w'=>v=.agg #[.string x.1,.int .i64 (x.2:Int)]∧q<=s.size∧PS w' P W s q gv nest) e w':=
 (newName_any' l hs hl hB h hp hN).mono λ_ _ h=>h.1
def pEb(adr:Nat->Addr)(k a:Nat):Value:=.agg #[.iface 447 (.pointer (some (adr k))),.int .i64 0,.int .i64 (a:Int)]
theorem ERes.isErr{r:Pr Unit}{P:Nat}{w w':World}{adr:Nat->Addr}{V:Nat->World->Prop}{e:Ending}{c a:Nat}(h:ERes r P w adr V e w')(hr:r=.error (c,a)):e=.returned (.iface 81 (pEb adr (kIx c) a))∧EF P w w':=by
 subst hr;exact⟨h.2,h.1⟩
theorem ERes.isOk{r:Pr Unit}{P:Nat}{w w':World}{adr:Nat->Addr}{V:Nat->World->Prop}{e:Ending}{u:Unit}{q:Nat}(h:ERes r P w adr V e w')(hr:r=.ok (u,q)):e=.returned .nilIface∧EF P w w'∧V q w':=by
 subst hr;exact⟨h.2.1,h.1,h.2.2⟩
theorem PRes.isErr{α:Type}{r:Pr α}{P:Nat}{w w':World}{adr:Nat->Addr}{Z:Value}{V:α->Nat->Value->World->Prop}{e:Ending}{c a:Nat}(h:PRes r P w adr Z V e w')(hr:r=.error (c,a)):e=.returned (.tuple #[Z,.iface 81 (pEb adr (kIx c) a)])∧EF P w w':=by
 subst hr;exact⟨h.2,h.1⟩
theorem PRes.isOk{α:Type}{r:Pr α}{P:Nat}{w w':World}{adr:Nat->Addr}{Z:Value}{V:α->Nat->Value->World->Prop}{e:Ending}{x:α}{q:Nat}(h:PRes r P w adr Z V e w')(hr:r=.ok (x,q)):∃v,e=.returned (.tuple #[v,.nilIface])∧EF P w w'∧V x q v w':=by
 subst hr;obtain⟨v,hv,hV⟩:=h.2;exact⟨v,hv,h.1,hV⟩
theorem pWants_one(s t:ByteArray)(p:Nat):pWants s [t] p=pWant s t p:=by
 show pb (pWant s t p) (λ_ q=>.ok ((),q))=_;match pWant s t p with
 |.error e=>rfl
 |.ok ((),q)=>rfl
theorem expect1_any{B w:World}{P W:Nat}{adr:Nat->Addr}{s:ByteArray}{p nest:Nat}{gv:Value}(t:ByteArray)(hB:PB B w P adr)(h:PS w P W s p gv nest)(hp:p<=s.size)(ht:t≠⟨#[]⟩):
 Calls Tryz.prog 65 #[.pointer (some ⟨P,0,none⟩),.slice (some ⟨w.heap.size,0,none⟩) 1 1] (w.alloc (.cells #[.string t] 9)) λe w'=>ERes (pWant s t p) P w adr (λq w'=>q<=s.size∧PS w' P W s q gv nest) e w':=by
 have hb:Below w.heap.size w (w.alloc (.cells #[.string t] 9)):=(Below.refl _ _).alloc (Nat.le_refl _) _;have hE:EF P w (w.alloc (.cells #[.string t] 9)):=EF.of_below hb;have hs:StrsAt (w.alloc (.cells #[.string t] 9)) P (.slice (some ⟨w.heap.size,0,none⟩) 1 1) [t]:=⟨w.heap.size,0,1,rfl,Nat.ne_of_gt h.lt,λi hi=>by
  have:i=0:=by simp at hi;exact hi
  subst this;simp⟩
 refine(expect_any (hB.ef hE) (h.below hb) hp hs (by simp) (λi hi=>by simp at hi)).mono ?_;rintro e w' ⟨h1,h2⟩;rw[pWants_one]at h2;refine⟨hE.trans h1,?_⟩;match hr:pWant s t p with
 |.error (c,a)=>rw[hr]at h2;exact h2
 |.ok ((),q)=>
  rw[hr]at h2;refine⟨h2.1,(fwd_want ht p hp () q hr).2,h2.2 λx hx=>?_⟩;simp at hx;rw[hx];exact ht
abbrev NmsO(w:World)(lo:Nat)(v:Value)(l:Nms):Prop:=RowS wC (λ_=>[]) (λ_ _=>True) 170 2 w lo v l
theorem Tryz.nameI:(Tryz.prog.info? 170).map (λi=>(i.zero,i.size,i.bytes))=some (some (.agg #[.string ⟨#[]⟩,.int .i64 0]),2,24):=by kernel_rfl
theorem flat_wC(l:Nms)(i:Nat)(hi:i<l.length):(l.flatMap wC)[i*2]?=some (.string l[i].1)∧(l.flatMap wC)[i*2+1]?=some (.int .i64 (l[i].2:Int)):=flat2_at (λx:ByteArray×Nat=>Value.string x.1) (λx=>Value.int .i64 (x.2:Int)) l i hi
theorem NmsO.nm{w:World}{lo:Nat}{v:Value}{l:Nms}(h:NmsO w lo v l):NmAt w v l:=by
 obtain⟨p,c,rfl⟩:=h.slice;refine⟨p,c,rfl,λhl=>?_⟩;rcases row_at h.own with⟨e,hn⟩|⟨g,cap,e,-,hc⟩
 ·exact absurd (List.eq_nil_of_length_eq_zero hn) hl
 ·cases e;have hg:=(h.rg g (List.mem_append_left _ (by rw[vB_slice];simp))).2;refine⟨g,0,rfl,hg,λi hi=>?_⟩;obtain⟨e0,e1⟩:=flat_wC l i hi;refine⟨?_,?_⟩
  ·rw[Nat.zero_add,hc (i*2) (by omega),e0]
  ·rw[Nat.zero_add,hc (i*2+1) (by omega),e1]
theorem RowS.ef{α:Type}{cells:α->List Value}{sub:α->List Nat}{ok:World->α->Prop}{e:TypeId}{size:Nat}(hok:OkFr sub ok){w w':World}{lo P:Nat}{v:Value}{xs:List α}(h:RowS cells sub ok e size w lo v xs)(hE:EF P w w')(hP:P<lo):RowS cells sub ok e size w' lo v xs:=
 h.fr hok hE.size λb hb=>hE.block b (h.rg b hb).2 (by have:=(h.rg b hb).1;omega)
theorem tClose_l:tClose.toList=[41]:=by rw[ByteArray.toList_eq];rfl
theorem tOpen_l:tOpen.toList=[40]:=by rw[ByteArray.toList_eq];rfl
theorem lit_t{s t:ByteArray}{l:List UInt8}(ht:t.toList=l)(h:s=t):(s.toList==l)=true:=by rw[h,ht];simp
theorem lit_f{s t:ByteArray}{l:List UInt8}(ht:t.toList=l)(h:¬s=t):(s.toList==l)=false:=by
 rw[beq_eq_false_iff_ne];intro e;exact h (toL_inj (by rw[e,ht]))
def slen:Value->Nat
 |.slice _ n _=>n
 |_=>0
structure NLSt (P W:Nat) (s:ByteArray) (gv:Value) (nest:Nat) (R:Pr Nms) (w wr:World) (got:Nms) (q:Nat) (vp:Option Addr) (vc:Nat):Prop where
 hq:q<=s.size
 ps:PS wr P W s q gv nest
 row:NmsO wr w.heap.size (.slice vp got.length vc) got
 ef:EF P w wr
 eq:R=pNamesL s (s.size+1-got.length) got q
 len:got.length<=q
theorem ef_push{P:Nat}{w X w2:World}{v:Value}{ob:Obj}(hE:EF P w X)(hv:∀b,v.ownBlock=some b->w.heap.size<=b)(hg:(X.alloc ob).grownBy w2 v.ownBlock):EF P w w2:=by
 have h1:EF P w (X.alloc ob):=hE.trans (EF.of_below ((Below.refl _ _).alloc (Nat.le_refl _) _));refine⟨hg.os.trans h1.os,hg.tape.trans h1.tape,hg.output.trans h1.output,Nat.le_trans h1.size hg.size,λk hk hn=>?_⟩;rw[hg.block k (Nat.lt_of_lt_of_le hk h1.size) (λe=>by have:=hv k e.symm;omega)];exact h1.block k hk hn
theorem PS.push{P W:Nat}{s:ByteArray}{p nest:Nat}{gv:Value}{X w2:World}{v:Value}{ob:Obj}(h:PS X P W s p gv nest)(hv:∀b,v.ownBlock=some b->b≠P∧b≠W)(hg:(X.alloc ob).grownBy w2 v.ownBlock):PS w2 P W s p gv nest:=by
 have h1:PS (X.alloc ob) P W s p gv nest:=h.below ((Below.refl _ _).alloc (Nat.le_refl _) _);have eP:=hg.block P h1.lt (λe=>(hv P e.symm).1 rfl);have eW:=hg.block W h1.wlt (λe=>(hv W e.symm).2 rfl);obtain⟨o,c,h0,hc,hc2,hne,hw⟩:=h1.c0;refine⟨⟨o,c,?_,hc,hc2,hne,λi hi=>⟨?_,?_⟩⟩,?_,?_,λj hj=>?_⟩
 ·rw[World.cell?_of_block (a:=⟨P,0,none⟩) eP];exact h0
 ·rw[World.cell?_of_block (a:=⟨W,o+i*2,none⟩) eW];exact(hw i hi).1
 ·rw[World.cell?_of_block (a:=⟨W,o+i*2+1,none⟩) eW];exact(hw i hi).2
 ·rw[World.cell?_of_block (a:=⟨P,1,none⟩) eP];exact h1.c1
 ·rw[World.cell?_of_block (a:=⟨P,2,none⟩) eP];exact h1.c2
 ·rw[World.frozen?_of_block (a:=⟨P,j,none⟩) eP];exact h1.f j hj
theorem namesL_end{s:ByteArray}{f:Nat}{got:Nms}{q:Nat}(h:tokT s q=tClose):pNamesL s (f+1) got q=.ok (got,nxt s q):=by rw[pNamesL];exact if_pos h
theorem namesL_go{s:ByteArray}{f:Nat}{got:Nms}{q:Nat}(h:¬tokT s q=tClose):pNamesL s (f+1) got q=pb (pNew s (got.map (·.1)) q) λx r=>pNamesL s f (got++[x]) r:=by
 rw[pNamesL];refine(if_neg h).trans ?_;unfold pNew;match pName s q with
 |.error e=>rfl
 |.ok (x,r)=>
  show(if inB x.1 (got.map (·.1)) 0=true then _ else _)=pb (if inB x.1 (got.map (·.1)) 0=true then _ else _) _;split<;>rfl
theorem NLSt.push{P W:Nat}{s:ByteArray}{gv:Value}{nest:Nat}{R:Pr Nms}{w wr X w2:World}{got:Nms}{q r:Nat}{vp:Option Addr}{vc:Nat}{x:ByteArray×Nat}{ob:Obj}(h:NLSt P W s gv nest R w wr got q vp vc)(hP:P<w.heap.size)(hW:W<w.heap.size)(hn:¬tokT s q=tClose)(hx:pNew s (got.map (·.1)) q=.ok (x,r))(hE:EF P wr X)(hS:PS X P W s r gv nest)
 (hg:(X.alloc ob).grownBy w2 (Value.slice vp got.length vc).ownBlock) {g c:Nat} (hat:(Value.slice vp got.length vc).ownBlock=some g∨g=(X.alloc ob).heap.size) (hlt:g<w2.heap.size)
 (hown:w2.ownsRow 0 170 2 (.slice (some ⟨g,0,none⟩) (got.length+1) c) (got.length+1) (got.flatMap wC++[.string x.1,.int .i64 (x.2:Int)])):
 NLSt P W s gv nest R w w2 (got++[x]) r (some ⟨g,0,none⟩) c:=by
 have hl:(got++[x]).length=got.length+1:=by simp
 have hrow:=h.row.ef okW hE hP;have hv:∀b,(Value.slice vp got.length vc).ownBlock=some b->w.heap.size<=b:=λb hb=>(hrow.rg b (List.mem_append_left _ (mem_vB.2 hb))).1;have hq:=h.hq;have hlen:=h.len;have hr:q+1<=r∧r<=s.size:=by
  obtain⟨y,q1,h1,h2⟩:=pb_inv hx;have:=fwd_name q hq y q1 h1;split at h2
  ·cases h2
  ·cases h2;exact this
 refine⟨hr.2,hS.push (λb hb=>⟨by have:=hv b hb;omega,by have:=hv b hb;omega⟩) hg,?_,ef_push (h.ef.trans hE) hv hg,?_,by omega⟩
 ·rw[hl];exact hrow.pushN okW (Nat.le_trans h.ef.size hE.size) trivial hg hat hlt hown
 ·rw[h.eq,show s.size+1-got.length=(s.size+1-(got++[x]).length)+1 by omega,namesL_go hn,hx,pb_ok]
theorem names_any{B w:World}{P W:Nat}{adr:Nat->Addr}{s:ByteArray}{p nest:Nat}{gv:Value}(hs:s.size<=2000)(hB:PB B w P adr)(h:PS w P W s p gv nest)(hp:p<=s.size):
 Calls Tryz.prog 148 #[.pointer (some ⟨P,0,none⟩)] w λe w'=>PRes (pNames s p) P w adr (.slice none 0 0) (λl q v w'=>q<=s.size∧PS w' P W s q gv nest∧NmsO w' w.heap.size v l) e w':=by
 have hPl:=h.lt;have hWl:=h.wlt;have HX:=hid (expect1_any tOpen hB h hp (by decide));have HB:=hid hB;obtain⟨ii,hii,hij⟩:=Option.map_eq_some_iff.1 Tryz.nameI;simp only[Prod.mk.injEq]at hij;obtain⟨hi0,hi1,hi2⟩:=hij;clear hB h;have F0:=fldW0;match hr:pWant s tOpen p with
 |.error (c,a)=>
  have HT:Hid (pNames s p=.error (c,a)):=by
   show pb (pWant s tOpen p) _=_;rw[hr,pb_err]
  have HR:=hid hr;clear hr;go_enter Tryz.func148,Tryz.ntmps148;go_wp2_with (first
   |(go_at_call 65;refine HX.out.mono ?_;rintro e w1 hr;obtain⟨rfl,hE1⟩:=hr.isErr HR.out;have HE1:=hid hE1;clear hr hE1))
  go_ret2
  exact PRes.bad HT.out HE1.out rfl
 |.ok ((),q0)=>
  have HT:Hid (pNames s p=pNamesL s (s.size+1) [] q0):=by
   show pb (pWant s tOpen p) _=_;rw[hr,pb_ok]
  have HR:=hid hr;clear hr;go_enter Tryz.func148,Tryz.ntmps148;go_wp2_with (first
   |(go_at_call 65;refine HX.out.mono ?_;rintro e w1 hr;obtain⟨rfl,hE1,hq1,hS1⟩:=hr.isOk HR.out;have HE1:=hid hE1;have HS1:=hid hS1;clear hr hE1 hS1))
  have HN0:Hid (NLSt P W s gv nest (pNamesL s (s.size+1) [] q0) w w1 [] q0 none 0):=⟨hq1,HS1.out,RowS.nil _ _,HE1.out,rfl,Nat.zero_le _⟩;generalize pNamesL s (s.size+1) [] q0=R at*;clear HS1 HX;go_loopw [5] (λlv wr=>∃(got:Nms) (q:Nat) (vp:Option Addr) (vc:Nat),lv=.slice vp got.length vc∧Hid (NLSt P W s gv nest R w wr got q vp vc)) (λlv _=>s.size+1-slen lv)
  case atStart=>exact⟨[],q0,none,0,rfl,HN0.out⟩
  case round=>
   clear HN0 HE1;obtain⟨got,q,vp,vc,rfl,HC⟩:=hrel;rename World=>wr
   have hq:=HC.out.hq;have hlen:=HC.out.len;have HP:=hid (peek_any HC.out.ps hq);have HBR:=hid (HB.out.ef HC.out.ef);by_cases hcl:tokT s q=tClose
   ·have HTE:Hid (R=.ok (got,nxt s q)):=by
     show _=_;rw[HC.out.eq,show s.size+1-got.length=(s.size-got.length)+1 by omega,namesL_end hcl]
    have b1:=lit_t tClose_l hcl;have HX2:=hid (λw1 (hb:Below wr.heap.size wr w1)=>expect1_any tClose (HBR.out.ef (EF.of_below hb)) (HC.out.ps.below hb) hq (by decide));have HW2:=hid (pWant_ok hcl);clear hcl;go_wp2_with (first
     |(go_at_call 67;refine HP.out.mono ?_;rintro e w1 ⟨rfl,hb1⟩;have HB1:=hid hb1;clear hb1)
     |(go_at_call 65;refine(HX2.out _ HB1.out).mono ?_;rintro e w2 hr;obtain⟨rfl,hE2,hq2,hS2⟩:=hr.isOk HW2.out;have HE2:=hid ((EF.of_below (E:=P) HB1.out).trans hE2);have HS2:=hid hS2;clear hr hE2 hS2))
    go_ret2
    exact PRes.ok (HT.out.trans HTE.out) (HC.out.ef.trans HE2.out) ⟨hq2,HS2.out,HC.out.row.ef okW HE2.out hPl⟩
   ·have b1:=lit_f tClose_l hcl;have HCL:=hid hcl;have HRG:Hid (R=pb (pNew s (got.map (·.1)) q) λx r=>pNamesL s (s.size-got.length) (got++[x]) r):=by
     show _=_;rw[HC.out.eq,show s.size+1-got.length=(s.size-got.length)+1 by omega,namesL_go hcl]
    have HNN:=hid (λw1 (hb:Below wr.heap.size wr w1)=>newName_any got hs (by omega) (HBR.out.ef (EF.of_below hb)) (HC.out.ps.below hb) hq (HC.out.row.nm.keep hb));clear hcl;match hx:pNew s (got.map (·.1)) q with
    |.error (c,a)=>
     have HTE:Hid (R=.error (c,a)):=by show _=_;rw[HRG.out,hx,pb_err]
     have HXX:=hid hx;clear hx;go_wp2_with (first
      |(go_at_call 67;refine HP.out.mono ?_;rintro e w1 ⟨rfl,hb1⟩;have HB1:=hid hb1;clear hb1)
      |(go_at_call 66;refine(HNN.out _ HB1.out).mono ?_;rintro e w2 hr;obtain⟨rfl,hE2⟩:=hr.isErr HXX.out;have HE2:=hid ((EF.of_below (E:=P) HB1.out).trans hE2);clear hr hE2))
     go_ret2
     exact PRes.bad (HT.out.trans HTE.out) (HC.out.ef.trans (HE2.out.trans (EF.of_below ((Below.refl _ _).alloc (Nat.le_refl _) _)))) rfl
    |.ok (x,r)=>
     have HXX:=hid hx;clear hx;go_wp2_with (first
      |(go_at_call 67;refine HP.out.mono ?_;rintro e w1 ⟨rfl,hb1⟩;have HB1:=hid hb1;clear hb1)
      |(go_at_call 66;refine(HNN.out _ HB1.out).mono ?_;rintro e w2 hr;obtain⟨v,rfl,hE2,rfl,hr2,hS2⟩:=hr.isOk HXX.out;have HE2:=hid ((EF.of_below (E:=P) HB1.out).trans hE2);have HS2:=hid hS2;clear hr hE2 hS2)
      |(at_builtin;refine wpList_append_lies _ rfl (.tmp 27) (.tmp 29) 105 rfl 0 170 ii _ 2 24 Tryz.underlying105 hii hi0 hi1 hi2 rfl (by omega) (.slice vp got.length vc) got.length (got.flatMap wC) rfl (((HC.out.row.ef okW HE2.out hPl).own.alloc _).alloc _) ⟨w2.heap.size+1,0,none⟩ 1 1 [.string x.1,.int .i64 (x.2:Int)] rfl rfl (by simpa using World.news_of_block (heap_alloc_new (w2.alloc (Obj.cells #[.string x.1,.int .i64 (x.2:Int)] 170)) (Obj.cells #[.string x.1,.int .i64 (x.2:Int)] 170))) (by intro u hu;simp at hu;rcases hu with rfl|rfl<;>rfl) (by omega) (by unfold maxLen;omega) (by omega) (Nat.zero_le _) _ rfl ?_;intro g1 k1 w7 hown hgrow hat hlt1;have HNX:=hid (HC.out.push hPl hWl HCL.out HXX.out (HE2.out.trans (EF.of_below ((Below.refl _ _).alloc (Nat.le_refl _) _))) (HS2.out.below ((Below.refl _ _).alloc (Nat.le_refl _) _)) hgrow hat hlt1 hown);clear hown hgrow hat hlt1))
     exact⟨⟨_,r,_,_,by rw[List.length_append];rfl,HNX.out⟩,by simp[slen];omega⟩
end Go.Proofs.YtcpcplaeaimmpaaGreatDoor
