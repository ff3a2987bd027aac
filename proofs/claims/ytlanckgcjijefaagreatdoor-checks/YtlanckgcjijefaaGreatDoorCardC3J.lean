import Derived.Test.YtlanckgcjijefaaGreatDoorCardC2J
import Derived.Test.YtlanckgcjijefaaGreatDoorTie
namespace Go.Proofs.YtlanckgcjijefaaGreatDoor
open Go.ChangeShapes Go.WideShapes Go.ChangeAt Go.RowKit
theorem plain(f:FuncId)(fn:Func)(hf:Tryz.pinned.checked.prog.funcNamed "tarn/tarnlaw.Checks"=some f)(hfn:Tryz.pinned.checked.prog.funcs[f]?=some fn):
 true=Tryz.pinned.checked.prog.looks []∧∀(j:Nat) t,fn.params[j]?=some t->Tryz.pinned.checked.prog.wantsStandIn t=false:=by
 obtain rfl:f=3:=Option.some.inj ((show Tryz.prog.funcNamed "tarn/tarnlaw.Checks"=some 3 by kernel_rfl).symm.trans hf)|>.symm;obtain rfl:fn=Tryz.f3:=(Option.some.inj (Tryz.func3.symm.trans hfn)).symm;refine⟨by kernel_rfl,λj t ht=>?_⟩;rw[Tryz.params3]at ht;have hm:=Array.mem_of_getElem? ht;simp only[List.mem_toArray,List.mem_cons,List.not_mem_nil,or_false]at hm;subst hm;exact(show Tryz.prog.wantsStandIn 9=false by kernel_rfl)
theorem checks_wf:Rows.checksRow.wfByText (OpenSpec.ofChange Rows.checksSpec)=true:=by kernel_rfl
theorem checks_main:Tryz.pinned.checked.prog.mainIs=some (Rows.checksCard.stood.harness.1,Rows.checksCard.stood.harness.2.toList):=by kernel_rfl
theorem checks_goes:false=Rows.checksRow.goesBy Tryz.pinned.checked.prog:=by kernel_rfl
theorem checks_card:Rows.ChecksCardSaid:=
 Claim7.holds_tied_plain_at .later [] Rows.checksCard.laidKinds true Rows.checksCard.stood.harness true checks_said (λ_ h=>by cases h) checks_wf (λ_ h=>by cases h) checks_row_tie rfl ⟨rfl,rfl⟩ checks_main rfl plain checks_goes
end Go.Proofs.YtlanckgcjijefaaGreatDoor
