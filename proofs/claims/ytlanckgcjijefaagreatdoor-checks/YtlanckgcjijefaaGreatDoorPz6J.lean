import Derived.Test.YtlanckgcjijefaaGreatDoorPz5J
import Derived.Test.YtlanckgcjijefaaGreatDoorPz1J
set_option maxRecDepth 100000
set_option maxHeartbeats 8000000
namespace Go.Proofs.YtlanckgcjijefaaGreatDoor
open Go.RowKit Go.Sort
theorem tLet_l:tLet.toList=[108,101,116]:=by rw[ByteArray.toList_eq];rfl
theorem tLetrec_l:tLetrec.toList=[108,101,116,114,101,99]:=by rw[ByteArray.toList_eq];rfl
theorem tCon_l:tCon.toList=[99,111,110]:=by rw[ByteArray.toList_eq];rfl
theorem tCase_l:tCase.toList=[99,97,115,101]:=by rw[ByteArray.toList_eq];rfl
theorem sign_ne{t:ByteArray}{k:Nat}(h:signOf t=some k):t≠⟨#[]⟩:=λe=>by
 rw[e]at h;have:signOf ⟨#[]⟩=none:=by decide
 rw[this]at h;cases h
theorem form_op{s:ByteArray}{E:Nat->Pr Ex}{p k:Nat}(h:signOf (tokT s p)=some k):pForm s E p=pOp E k (nxt s p):=by unfold pForm;rw[h];rfl
theorem form_no{s:ByteArray}{E:Nat->Pr Ex}{p:Nat}(h:signOf (tokT s p)=none):pForm s E p=if tokT s p=tLet then pLets s E false (nxt s p)
 else if tokT s p=tLetrec then pLets s E true (nxt s p)
 else if tokT s p=tCon then pCon s E (nxt s p)
 else if tokT s p=tCase then pCase s E (nxt s p)
 else pCall s E p:=by unfold pForm;rw[h]
theorem inside_of{B:World}{P W:Nat}{adr:Nat->Addr}{s:ByteArray}{gv:Value}{d nest:Nat}(hs:s.size<=2000)(hE:PExprC B P W adr s gv d nest)(hBC:BindC B P W adr s gv d nest):FormC 83 B P W adr s gv d nest (pForm s (pE s d)) #[]:=by
 intro w p hB h hp;have HP:=hid (peek_any h hp);have HB:=hid hB;have HS:=hid h;have hnx:=nxt_le hp;have F0:=fldW0;have HV:Hid (signV (tokT s p)=match signOf (tokT s p) with|some k=>.tuple #[.int .i64 (9+(k:Int)),.bool true]|none=>.tuple #[.int .i64 0,.bool false]):=rfl;clear hB h;show Calls _ _ #[.pointer (some ⟨P,0,none⟩)] _ _;cases hk:signOf (tokT s p) with
 |some k=>
  have HT:=hid (form_op (E:=pE s d) hk);have HNE:=hid (sign_ne hk);rw[hk]at HV;have HC:Hid (∀w1,EF P w w1->PS w1 P W s (nxt s p) gv nest->Calls Tryz.prog 92 #[.pointer (some ⟨P,0,none⟩),.int .i64 (9+(k:Int))] w1 λe w'=>XRes (pForm s (pE s d) p) P w adr (XV (d+2) s P W gv nest w) e w'):=by
   intro w1 h1 h2;rw[HT.out];exact(op_of k hE w1 _ (HB.out.ef h1) h2 hnx).mono λ_ _ hr=>hr.rebase h1
  clear hk HT;go_enter Tryz.func83,Tryz.ntmps83;go_wp2_with (first
   |(go_at_call 33;refine HP.out.mono ?_;rintro e w1 ⟨rfl,hb1⟩;have HB1:=hid hb1;clear hb1)
   |(go_at_call 91;refine(opOf_any _ _).mono ?_;rintro e w' ⟨rfl,rfl⟩;rw[HV.out])
   |(go_at_call 34;refine(skip_any (HS.out.below HB1.out) hp).mono ?_;rintro e w2 ⟨rfl,hE2,hP2⟩;have HE2:=hid ((EF.of_below (E:=P) HB1.out).trans hE2);have HP2:=hid (hP2 HNE.out);clear hE2 hP2)
   |(go_at_call 92;refine(HC.out _ HE2.out HP2.out).mono ?_;intro e w3 hr;have HR:=hid hr;obtain⟨ra,rb,rfl⟩:=hr.two;clear hr))
  go_ret2
  exact HR.out
 |none=>
  have HF:=hid (form_no (E:=pE s d) hk);rw[hk]at HV;clear hk;by_cases h1:tokT s p=tLet
  ·have HNE:Hid (tokT s p≠⟨#[]⟩):=by show _≠_;rw[h1];decide
   have b1:=lit_t tLet_l h1;have b2:((tokT s p).toList==[108,101,116,114,101,99])=false:=by rw[h1,tLet_l];decide
   have HC:Hid (∀w1,EF P w w1->PS w1 P W s (nxt s p) gv nest->Calls Tryz.prog 93 #[.pointer (some ⟨P,0,none⟩),.bool false] w1 λe w'=>XRes (pForm s (pE s d) p) P w adr (XV (d+2) s P W gv nest w) e w'):=by
    intro w1 k1 k2;rw[HF.out,if_pos h1];exact(let_of false hE hBC w1 _ (HB.out.ef k1) k2 hnx).mono λ_ _ hr=>hr.rebase k1
   clear h1 HF;go_enter Tryz.func83,Tryz.ntmps83;go_wp2_with (first
    |(go_at_call 33;refine HP.out.mono ?_;rintro e w1 ⟨rfl,hb1⟩;have HB1:=hid hb1;clear hb1)
    |(go_at_call 91;refine(opOf_any _ _).mono ?_;rintro e w' ⟨rfl,rfl⟩;rw[HV.out])
    |(go_at_call 34;refine(skip_any (HS.out.below HB1.out) hp).mono ?_;rintro e w2 ⟨rfl,hE2,hP2⟩;have HE2:=hid ((EF.of_below (E:=P) HB1.out).trans hE2);have HP2:=hid (hP2 HNE.out);clear hE2 hP2)
    |(go_at_call 93;refine(HC.out _ HE2.out HP2.out).mono ?_;intro e w3 hr;have HR:=hid hr;obtain⟨ra,rb,rfl⟩:=hr.two;clear hr))
   go_ret2
   exact HR.out
  ·have b1:=lit_f tLet_l h1;by_cases h2:tokT s p=tLetrec
   ·have HNE:Hid (tokT s p≠⟨#[]⟩):=by show _≠_;rw[h2];decide
    have b2:=lit_t tLetrec_l h2;have HC:Hid (∀w1,EF P w w1->PS w1 P W s (nxt s p) gv nest->Calls Tryz.prog 93 #[.pointer (some ⟨P,0,none⟩),.bool true] w1 λe w'=>XRes (pForm s (pE s d) p) P w adr (XV (d+2) s P W gv nest w) e w'):=by
     intro w1 k1 k2;rw[HF.out,if_neg h1,if_pos h2];exact(let_of true hE hBC w1 _ (HB.out.ef k1) k2 hnx).mono λ_ _ hr=>hr.rebase k1
    clear h1 h2 HF;go_enter Tryz.func83,Tryz.ntmps83;go_wp2_with (first
     |(go_at_call 33;refine HP.out.mono ?_;rintro e w1 ⟨rfl,hb1⟩;have HB1:=hid hb1;clear hb1)
     |(go_at_call 91;refine(opOf_any _ _).mono ?_;rintro e w' ⟨rfl,rfl⟩;rw[HV.out])
     |(go_at_call 34;refine(skip_any (HS.out.below HB1.out) hp).mono ?_;rintro e w2 ⟨rfl,hE2,hP2⟩;have HE2:=hid ((EF.of_below (E:=P) HB1.out).trans hE2);have HP2:=hid (hP2 HNE.out);clear hE2 hP2)
     |(go_at_call 93;refine(HC.out _ HE2.out HP2.out).mono ?_;intro e w3 hr;have HR:=hid hr;obtain⟨ra,rb,rfl⟩:=hr.two;clear hr))
    go_ret2
    exact HR.out
   ·have b2:=lit_f tLetrec_l h2;by_cases h3:tokT s p=tCon
    ·have HNE:Hid (tokT s p≠⟨#[]⟩):=by show _≠_;rw[h3];decide
     have b3:=lit_t tCon_l h3;have HC:Hid (∀w1,EF P w w1->PS w1 P W s (nxt s p) gv nest->Calls Tryz.prog 94 #[.pointer (some ⟨P,0,none⟩)] w1 λe w'=>XRes (pForm s (pE s d) p) P w adr (XV (d+2) s P W gv nest w) e w'):=by
      intro w1 k1 k2;rw[HF.out,if_neg h1,if_neg h2,if_pos h3];exact(con_of hs hE w1 _ (HB.out.ef k1) k2 hnx).mono λ_ _ hr=>hr.rebase k1
     clear h1 h2 h3 HF;go_enter Tryz.func83,Tryz.ntmps83;go_wp2_with (first
      |(go_at_call 33;refine HP.out.mono ?_;rintro e w1 ⟨rfl,hb1⟩;have HB1:=hid hb1;clear hb1)
      |(go_at_call 91;refine(opOf_any _ _).mono ?_;rintro e w' ⟨rfl,rfl⟩;rw[HV.out])
      |(go_at_call 34;refine(skip_any (HS.out.below HB1.out) hp).mono ?_;rintro e w2 ⟨rfl,hE2,hP2⟩;have HE2:=hid ((EF.of_below (E:=P) HB1.out).trans hE2);have HP2:=hid (hP2 HNE.out);clear hE2 hP2)
      |(go_at_call 94;refine(HC.out _ HE2.out HP2.out).mono ?_;intro e w3 hr;have HR:=hid hr;obtain⟨ra,rb,rfl⟩:=hr.two;clear hr))
     go_ret2
     exact HR.out
    ·have b3:=lit_f tCon_l h3;by_cases h4:tokT s p=tCase
     ·have HNE:Hid (tokT s p≠⟨#[]⟩):=by show _≠_;rw[h4];decide
      have b4:=lit_t tCase_l h4;have HC:Hid (∀w1,EF P w w1->PS w1 P W s (nxt s p) gv nest->Calls Tryz.prog 95 #[.pointer (some ⟨P,0,none⟩)] w1 λe w'=>XRes (pForm s (pE s d) p) P w adr (XV (d+2) s P W gv nest w) e w'):=by
       intro w1 k1 k2;rw[HF.out,if_neg h1,if_neg h2,if_neg h3,if_pos h4];exact(case_of hs hE w1 _ (HB.out.ef k1) k2 hnx).mono λ_ _ hr=>hr.rebase k1
      clear h1 h2 h3 h4 HF;go_enter Tryz.func83,Tryz.ntmps83;go_wp2_with (first
       |(go_at_call 33;refine HP.out.mono ?_;rintro e w1 ⟨rfl,hb1⟩;have HB1:=hid hb1;clear hb1)
       |(go_at_call 91;refine(opOf_any _ _).mono ?_;rintro e w' ⟨rfl,rfl⟩;rw[HV.out])
       |(go_at_call 34;refine(skip_any (HS.out.below HB1.out) hp).mono ?_;rintro e w2 ⟨rfl,hE2,hP2⟩;have HE2:=hid ((EF.of_below (E:=P) HB1.out).trans hE2);have HP2:=hid (hP2 HNE.out);clear hE2 hP2)
       |(go_at_call 95;refine(HC.out _ HE2.out HP2.out).mono ?_;intro e w3 hr;have HR:=hid hr;obtain⟨ra,rb,rfl⟩:=hr.two;clear hr))
      go_ret2
      exact HR.out
     ·have b4:=lit_f tCase_l h4;have HC:Hid (∀w1,EF P w w1->PS w1 P W s p gv nest->Calls Tryz.prog 96 #[.pointer (some ⟨P,0,none⟩)] w1 λe w'=>XRes (pForm s (pE s d) p) P w adr (XV (d+2) s P W gv nest w) e w'):=by
       intro w1 k1 k2;rw[HF.out,if_neg h1,if_neg h2,if_neg h3,if_neg h4];exact(call_of hs hE w1 _ (HB.out.ef k1) k2 hp).mono λ_ _ hr=>hr.rebase k1
      clear h1 h2 h3 h4 HF;go_enter Tryz.func83,Tryz.ntmps83;go_wp2_with (first
       |(go_at_call 33;refine HP.out.mono ?_;rintro e w1 ⟨rfl,hb1⟩;have HB1:=hid hb1;clear hb1)
       |(go_at_call 91;refine(opOf_any _ _).mono ?_;rintro e w' ⟨rfl,rfl⟩;rw[HV.out])
       |(go_at_call 96;refine(HC.out _ (EF.of_below HB1.out) (HS.out.below HB1.out)).mono ?_;intro e w3 hr;have HR:=hid hr;obtain⟨ra,rb,rfl⟩:=hr.two;clear hr))
      go_ret2
      exact HR.out
theorem expr_any{B:World}{P W:Nat}{adr:Nat->Addr}{s:ByteArray}{gv:Value}(hs:s.size<=2000)(hBC:∀d nest,PExprC B P W adr s gv d nest->BindC B P W adr s gv d nest):∀d nest,nest+d=30->PExprC B P W adr s gv d nest
 |0,nest,hn=>by
  obtain rfl:nest=30:=by omega
  exact expr_of hs bracket_zero
 |d+1,nest,hn=>by
  have hI:=expr_any hs hBC d (nest+1) (by omega);exact expr_of hs (bracket_succ (by omega) (inside_of hs hI (hBC d (nest+1) hI)))
end Go.Proofs.YtlanckgcjijefaaGreatDoor
