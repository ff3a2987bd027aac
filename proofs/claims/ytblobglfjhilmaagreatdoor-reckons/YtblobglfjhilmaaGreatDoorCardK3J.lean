import Derived.Test.YtblobglfjhilmaaGreatDoorCardK2J
import Derived.Test.YtblobglfjhilmaaGreatDoorTie
namespace Go.Proofs.YtblobglfjhilmaaGreatDoor
open Go.ChangeShapes Go.WideShapes Go.ChangeAt Go.RowKit
theorem plain(f:FuncId)(fn:Func)(hf:Tryz.pinned.checked.prog.funcNamed "tarn/tarnkeep.Reckons"=some f)(hfn:Tryz.pinned.checked.prog.funcs[f]?=some fn):
 true=Tryz.pinned.checked.prog.looks []∧∀(j:Nat) t,fn.params[j]?=some t->Tryz.pinned.checked.prog.wantsStandIn t=false:=by
 obtain rfl:f=3:=Option.some.inj ((show Tryz.prog.funcNamed "tarn/tarnkeep.Reckons"=some 3 by kernel_rfl).symm.trans hf)|>.symm;obtain rfl:fn=Tryz.f3:=(Option.some.inj (Tryz.func3.symm.trans hfn)).symm;refine⟨by kernel_rfl,λj t ht=>?_⟩;rw[Tryz.params3]at ht;have hm:=Array.mem_of_getElem? ht;simp only[List.mem_toArray,List.mem_cons,List.not_mem_nil,or_false]at hm;rcases hm with rfl|rfl|rfl<;>exact(show Tryz.prog.wantsStandIn 3=false by kernel_rfl)
theorem reckons_wf:Rows.reckonsRow.wfByText (OpenSpec.ofChange Rows.reckonsSpec)=true:=by kernel_rfl
theorem reckons_main:Tryz.pinned.checked.prog.mainIs=some (Rows.reckonsCard.stood.harness.1,Rows.reckonsCard.stood.harness.2.toList):=by kernel_rfl
theorem reckons_goes:false=Rows.reckonsRow.goesBy Tryz.pinned.checked.prog:=by kernel_rfl
theorem reckons_card:Rows.ReckonsCardSaid:=
 Claim7.holds_tied_plain_at .later [] Rows.reckonsCard.laidKinds true Rows.reckonsCard.stood.harness true reckons_said (λ_ h=>by cases h) reckons_wf (λ_ h=>by cases h) reckons_row_tie rfl ⟨rfl,rfl⟩ reckons_main rfl plain reckons_goes
end Go.Proofs.YtblobglfjhilmaaGreatDoor
