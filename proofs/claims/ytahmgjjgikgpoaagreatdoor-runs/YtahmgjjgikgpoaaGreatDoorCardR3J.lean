import Derived.Test.YtahmgjjgikgpoaaGreatDoorCardR2J
import Derived.Test.YtahmgjjgikgpoaaGreatDoorTie
namespace Go.Proofs.YtahmgjjgikgpoaaGreatDoor
open Go.ChangeShapes Go.WideShapes Go.ChangeAt Go.RowKit
theorem plain(f:FuncId)(fn:Func)(hf:Tryz.pinned.checked.prog.funcNamed "tarn/tarnlaw.Runs"=some f)(hfn:Tryz.pinned.checked.prog.funcs[f]?=some fn):
 true=Tryz.pinned.checked.prog.looks []∧∀(j:Nat) t,fn.params[j]?=some t->Tryz.pinned.checked.prog.wantsStandIn t=false:=by
 obtain rfl:f=3:=Option.some.inj ((show Tryz.prog.funcNamed "tarn/tarnlaw.Runs"=some 3 by kernel_rfl).symm.trans hf)|>.symm;obtain rfl:fn=Tryz.f3:=(Option.some.inj (Tryz.func3.symm.trans hfn)).symm;refine⟨by kernel_rfl,λj t ht=>?_⟩;rw[Tryz.params3]at ht;have hm:=Array.mem_of_getElem? ht;simp only[List.mem_toArray,List.mem_cons,List.not_mem_nil,or_false]at hm;rcases hm with rfl|rfl|rfl
 ·exact(show Tryz.prog.wantsStandIn 22=false by kernel_rfl)
 ·exact(show Tryz.prog.wantsStandIn 9=false by kernel_rfl)
 ·exact(show Tryz.prog.wantsStandIn 23=false by kernel_rfl)
theorem runs_wf:Rows.runsRow.wfByText (OpenSpec.ofChange Rows.runsSpec)=true:=by kernel_rfl
theorem runs_main:Tryz.pinned.checked.prog.mainIs=some (Rows.runsCard.stood.harness.1,Rows.runsCard.stood.harness.2.toList):=by kernel_rfl
theorem runs_goes:false=Rows.runsRow.goesBy Tryz.pinned.checked.prog:=by kernel_rfl
theorem runs_card:Rows.RunsCardSaid:=
 Claim7.holds_tied_plain_at .later [] Rows.runsCard.laidKinds true Rows.runsCard.stood.harness true runs_said (λ_ h=>by cases h) runs_wf (λ_ h=>by cases h) runs_row_tie rfl ⟨rfl,rfl⟩ runs_main rfl plain runs_goes
end Go.Proofs.YtahmgjjgikgpoaaGreatDoor
