import Derived.Test.YtlccndplhfcknaaGreatDoorCardL2J
import Derived.Test.YtlccndplhfcknaaGreatDoorTie
namespace Go.Proofs.YtlccndplhfcknaaGreatDoor
open Go.ChangeShapes Go.WideShapes Go.ChangeAt Go.RowKit
theorem plain(f:FuncId)(fn:Func)(hf:Tryz.pinned.checked.prog.funcNamed "tarn/tarnlaw.Links"=some f)(hfn:Tryz.pinned.checked.prog.funcs[f]?=some fn):
 true=Tryz.pinned.checked.prog.looks []∧∀(j:Nat) t,fn.params[j]?=some t->Tryz.pinned.checked.prog.wantsStandIn t=false:=by
 obtain rfl:f=3:=Option.some.inj ((show Tryz.prog.funcNamed "tarn/tarnlaw.Links"=some 3 by kernel_rfl).symm.trans hf)|>.symm;obtain rfl:fn=Tryz.f3:=(Option.some.inj (Tryz.func3.symm.trans hfn)).symm;refine⟨by kernel_rfl,λj t ht=>?_⟩;rw[Tryz.params3]at ht;have hm:=Array.mem_of_getElem? ht;simp only[List.mem_toArray,List.mem_cons,List.not_mem_nil,or_false]at hm;rcases hm with rfl|rfl
 ·exact(show Tryz.prog.wantsStandIn 22=false by kernel_rfl)
 ·exact(show Tryz.prog.wantsStandIn 9=false by kernel_rfl)
theorem links_wf:Rows.linksRow.wfByText (OpenSpec.ofChange Rows.linksSpec)=true:=by kernel_rfl
theorem links_main:Tryz.pinned.checked.prog.mainIs=some (Rows.linksCard.stood.harness.1,Rows.linksCard.stood.harness.2.toList):=by kernel_rfl
theorem links_goes:false=Rows.linksRow.goesBy Tryz.pinned.checked.prog:=by kernel_rfl
theorem links_card:Rows.LinksCardSaid:=
 Claim7.holds_tied_plain_at .later [] Rows.linksCard.laidKinds true Rows.linksCard.stood.harness true links_said (λ_ h=>by cases h) links_wf (λ_ h=>by cases h) links_row_tie rfl ⟨rfl,rfl⟩ links_main rfl plain links_goes
end Go.Proofs.YtlccndplhfcknaaGreatDoor
