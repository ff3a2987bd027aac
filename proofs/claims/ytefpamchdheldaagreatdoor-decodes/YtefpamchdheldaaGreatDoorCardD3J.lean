import Derived.Test.YtefpamchdheldaaGreatDoorCardD2J
namespace Go.Proofs.YtefpamchdheldaaGreatDoor
open Go.ChangeShapes Go.WideShapes Go.ChangeAt Go.RowKit
theorem plain(f:FuncId)(fn:Func)(hf:Tryz.pinned.checked.prog.funcNamed "tarn/tarnlaw.Decodes"=some f)(hfn:Tryz.pinned.checked.prog.funcs[f]?=some fn):
 true=Tryz.pinned.checked.prog.looks []∧∀(j:Nat) t,fn.params[j]?=some t->Tryz.pinned.checked.prog.wantsStandIn t=false:=by
 obtain rfl:f=3:=Option.some.inj ((show Tryz.prog.funcNamed "tarn/tarnlaw.Decodes"=some 3 by kernel_rfl).symm.trans hf)|>.symm;obtain rfl:fn=Tryz.f3:=(Option.some.inj (Tryz.func3.symm.trans hfn)).symm;refine⟨by kernel_rfl,λj t ht=>?_⟩;rw[Tryz.params3]at ht;have hm:=Array.mem_of_getElem? ht;simp only[List.mem_toArray,List.mem_cons,List.not_mem_nil,or_false]at hm;rcases hm with rfl|rfl
 ·exact(show Tryz.prog.wantsStandIn 9=false by kernel_rfl)
 ·exact(show Tryz.prog.wantsStandIn 4=false by kernel_rfl)
theorem decodes_wf:Rows.decodesRow.wfByText (OpenSpec.ofChange Rows.decodesSpec)=true:=by kernel_rfl
theorem decodes_main:Tryz.pinned.checked.prog.mainIs=some (Rows.decodesCard.stood.harness.1,Rows.decodesCard.stood.harness.2.toList):=by kernel_rfl
theorem decodes_goes:false=Rows.decodesRow.goesBy Tryz.pinned.checked.prog:=by kernel_rfl
theorem decodes_card:Rows.DecodesCardSaid:=
 Claim7.holds_tied_plain_at .later [] Rows.decodesCard.laidKinds true Rows.decodesCard.stood.harness true decodes_said (λ_ h=>by cases h) decodes_wf (λ_ h=>by cases h) decodes_row_tie rfl ⟨rfl,rfl⟩ decodes_main rfl plain decodes_goes
end Go.Proofs.YtefpamchdheldaaGreatDoor
