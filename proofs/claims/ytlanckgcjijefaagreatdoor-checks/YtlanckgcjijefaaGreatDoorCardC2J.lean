import Derived.Test.YtlanckgcjijefaaGreatDoorPqfJ
import Derived.Test.YtlanckgcjijefaaGreatDoorPzGJ
import Derived.Test.YtlanckgcjijefaaGreatDoorLy3J
import Derived.Test.YtlanckgcjijefaaGreatDoorCardC0J
set_option maxRecDepth 100000
set_option maxHeartbeats 4000000
namespace Go.Proofs.YtlanckgcjijefaaGreatDoor
open Go.RowKit Go.Sort
theorem chk_same(s:ByteArray):pChk s=rRead s:=by
 by_cases hl:2000<s.size
 ·unfold pChk;rw[read_long hl,rRead_long hl]
 ·have hm:=pMod_module s 0;match h1:pMod s 0,h2:pModule s 0 with
  |.error e,.error e'=>
   rw[h1,h2]at hm;cases hm;unfold pChk;rw[read_err hl h1,rRead_err hl h2]
  |.error e,.ok (x,q)=>rw[h1,h2]at hm;cases hm
  |.ok (x,q),.error e=>rw[h1,h2]at hm;cases hm
  |.ok (x,q),.ok (y,q')=>
   rw[h1,h2]at hm;have hy:y=modT x:=by cases hm;rfl
   subst hy;have hi:=mod_inv (by omega) (Nat.zero_le _) h1;have hs:=least_same hi 0;rw[rRead_ok hl h2];have he:rLook (modT x).2.1 (modT x).2.2 (0,0)=rFold (λt=>inB t (knownOf (x.2.1.map imT) (x.2.2.map dfT)) 0) (x.2.2.map dfT) (0,0):=rfl;rw[he];unfold pChk;match h3:bst none (mFaults x.2.1 x.2.2) with
   |none=>
    rw[h3]at hs;rw[read_ok hl h1 h3];unfold stO at hs;split at hs
    ·rename_i h0
     rw[if_pos h0]
    ·cases hs
   |some e=>
    rw[h3]at hs;rw[read_bad hl h1 h3];unfold stO at hs;split at hs
    ·cases hs
    ·rename_i h0
     rw[if_neg h0];exact(Option.some.inj hs).symm
theorem checks_try(s:ByteArray){adr:Nat->Addr}{w:World}(hA:SentAt w adr)(hS:SY w adr):Calls Tryz.prog 3 #[.string s] w λe w'=>e=.returned (.bool true)∧Below w.heap.size w w':=by
 have HC:=hid (check_any (s:=s) (λhs _ _ _=>.of λ_=>expr_full hs 30 0 rfl) hA hS);have HR:=hid (λw1=>refRead_any s w1);obtain⟨c,a,hca⟩:∃c a:Nat,rRead s=(c,a):=⟨_,_,rfl⟩;rw[chk_same s,hca]at HC;unfold RRes at HR;rw[hca]at HR;simp only at HC HR;clear hA hS hca;go_enter Tryz.func3,Tryz.ntmps3;go_wp2_with (first
  |(go_at_call 4;refine HC.out.mono ?_;rintro e w1 ⟨hb1,rfl⟩;have HB1:=hid hb1;clear hb1)
  |(go_at_call 5;refine(HR.out _).mono ?_;rintro e w2 ⟨hb2,nm,ip,n1,c1,dp,n2,c2,rfl⟩;have HB2:=hid (HB1.out.trans (hb2.mono HB1.out.size));clear hb2)
  |(go_at_call 6;go_in))
 go_ret;exact⟨rfl,HB2.out.trans (((Below.refl _ _).alloc (Nat.le_refl _) _).mono HB2.out.size)⟩
end Go.Proofs.YtlanckgcjijefaaGreatDoor
namespace Go.Proofs.YtlanckgcjijefaaGreatDoor
open Go.ChangeShapes Go.WideShapes Go.ChangeAt Go.RowKit
theorem Tryz.own:ownKnob Tryz.prog.godebug=none:=by kernel_rfl
theorem checks_contract(H:Type)(enc:TypeId×Value->H)(W:World)(base:Nat)(args:Array Value)(ds gs:List (DataW H))(before:List MemPlace)
 (hval:∀(j:Nat) t v,Tryz.f3.params[j]?=some t->args[j]?=some v->Value.okWide Tryz.prog W .any base t v)
 (hW:DataW.Whole enc Tryz.prog Tryz.f3.params.toList Rows.checksSpec.vars false W args.toList ds gs before)
 (hL:laidMetH Tryz.prog Rows.checksRow.laid W):
 Calls Tryz.prog 3 args W λe W'=>∃v,e=.returned v∧Rows.checksSpec.post enc Tryz.prog Tryz.f3 false true false false W args v W':=by
 have hW':=hW;obtain⟨p,q,hA0,hV,rfl,hfz,hnd⟩:=hW;have hA:DataW.TrodAll enc Tryz.prog W 0 (λ_=>true) true Tryz.f3.params.toList args.toList ds p:=hA0;rw[Tryz.params3]at hA hval;obtain⟨v0,vs0,d0,ds0,p0,q0,hargs,rfl,rfl,h0,r0⟩:=trodAll_cons hA;obtain⟨rfl,rfl,rfl⟩:=trodAll_nil r0;obtain rfl:args=#[v0]:=by cases args;simp_all
 obtain⟨rfl,rfl⟩:=trodVars_none hV;simp only[List.append_nil]at hW';obtain⟨s,rfl⟩:=okWide_string Tryz.underlying9 (hval 0 9 v0 rfl rfl);obtain⟨f0,h0'⟩:=id h0;obtain⟨s',e0,x0,hs⟩:=DataW.trod_string Tryz.underlying9 h0';obtain rfl:s=s':=by have h:[Value.string s]=[Value.string s']:=e0;simpa using h
 obtain⟨adr,hS⟩:=sentAt hL;refine(checks_try s hS (sy_of hL hS)).mono λe W' ⟨he,hb⟩=>?_;subst he;have hlt:∀x∈p0++[],x.block<W.heap.size:=λx hx=>by simpa using hW'.lt x (by simpa using hx)
 refine⟨_,rfl,_,_,_,[],p0++[],[],by simpa using hW',?_,?_,?_,?_,λh=>by cases h⟩
 ·exact trodAll_mk1 (shut_bool Tryz.underlying4 true)
 ·rw[Tryz.params3];have hp0:p0=[]:=(Prod.mk.inj x0).2;have hd0:d0=.lit (.string s.data.toList):=(Prod.mk.inj x0).1;subst hp0 hd0;exact trodAll_mk1 (Go.Deep.shut_string_cell Tryz.underlying9 hs)
 ·rfl
 ·exact hb.frame _
theorem checks_lifted(os:Os)(started:os.Started)(H:Type)(enc:TypeId×Value->H)(F:Stop.Interp):
 ReturnsInHanded {} Tryz.checked os 3 .any ((OpenSpec.ofChange Rows.checksSpec).preRow enc Tryz.prog Tryz.f3 Rows.checksRow.domain false Rows.checksRow.laid) (((OpenSpec.ofChange Rows.checksSpec).at F).post enc Tryz.prog Tryz.f3 false true false false):=by
 obtain⟨places,hx⟩:=reads os enc;refine returnsInHanded_of_row (C:=Tryz.checked) (s:=OpenSpec.ofChange Rows.checksSpec) Tryz.own started (by kernel_rfl) Tryz.func3
  (witness_row_at (enc:=enc) (C:=Tryz.checked) false (laidWorld os) #[.string ⟨#[]⟩] rfl (by kernel_rfl) (by kernel_rfl) (by kernel_rfl)
   (OpenSpec.preRow_of_cond 8 hx (by kernel_rfl) (λk hk=>by cases hk) (by kernel_rfl) (laid_met os))) ?_
 intro W base args ds gs before hval hW _ _ _ hL _ _;exact checks_contract H enc W base args ds gs before hval hW hL
theorem checks_said:Rows.ChecksSaid:=
 OpenClaim.holds_of_cond 3 Tryz.f3 rfl rfl rfl rfl rfl rfl rfl ⟨rfl,rfl,rfl,rfl,rfl⟩ rfl rfl rfl rfl rfl (by kernel_rfl) Tryz.func3 checks_facts
  (of_decide_eq_true (by kernel_rfl)) (by unfold Func.isWrapper;first|(rw[if_pos (by decide+kernel)];kernel_rfl)|(rw[if_neg (by decide+kernel)];exact⟨rfl,rfl⟩))
  (λos started H enc _ F=>by rw[OpenClaim.pre_eq_preRow];exact checks_lifted os started H enc F)
end Go.Proofs.YtlanckgcjijefaaGreatDoor
