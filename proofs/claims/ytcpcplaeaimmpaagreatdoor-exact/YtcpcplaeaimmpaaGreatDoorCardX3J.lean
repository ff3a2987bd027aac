import Derived.Test.YtcpcplaeaimmpaaGreatDoorCardX2J
import Derived.Test.YtcpcplaeaimmpaaGreatDoorTie
namespace Go.Proofs.YtcpcplaeaimmpaaGreatDoor
open Go.ChangeShapes Go.WideShapes Go.ChangeAt Go.RowKit
theorem plain(f:FuncId)(fn:Func)(hf:Tryz.pinned.checked.prog.funcNamed "tarn/tarnkeep.Exact"=some f)(hfn:Tryz.pinned.checked.prog.funcs[f]?=some fn):
 true=Tryz.pinned.checked.prog.looks []∧∀(j:Nat) t,fn.params[j]?=some t->Tryz.pinned.checked.prog.wantsStandIn t=false:=by
 obtain rfl:f=3:=Option.some.inj ((show Tryz.prog.funcNamed "tarn/tarnkeep.Exact"=some 3 by kernel_rfl).symm.trans hf)|>.symm;obtain rfl:fn=Tryz.f3:=(Option.some.inj (Tryz.func3.symm.trans hfn)).symm;refine⟨by kernel_rfl,λj t ht=>?_⟩;rw[Tryz.params3]at ht;have hm:=Array.mem_of_getElem? ht;simp only[List.mem_toArray,List.mem_cons,List.not_mem_nil,or_false]at hm;rcases hm with rfl|rfl
 ·exact(show Tryz.prog.wantsStandIn 25=false by kernel_rfl)
 ·exact(show Tryz.prog.wantsStandIn 9=false by kernel_rfl)
theorem exact_wf:Rows.exactRow.wfByText (OpenSpec.ofChange Rows.exactSpec)=true:=by kernel_rfl
theorem exact_main:Tryz.pinned.checked.prog.mainIs=some (Rows.exactCard.stood.harness.1,Rows.exactCard.stood.harness.2.toList):=by kernel_rfl
theorem exact_goes:false=Rows.exactRow.goesBy Tryz.pinned.checked.prog:=by kernel_rfl
theorem exact_card:Rows.ExactCardSaid:=
 Claim7.holds_tied_plain_at .later [] Rows.exactCard.laidKinds true Rows.exactCard.stood.harness true exact_said (λ_ h=>by cases h) exact_wf (λ_ h=>by cases h) exact_row_tie rfl ⟨rfl,rfl⟩ exact_main rfl plain exact_goes
end Go.Proofs.YtcpcplaeaimmpaaGreatDoor
