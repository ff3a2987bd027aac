import Derived.Test.YtcpcplaeaimmpaaGreatDoorCardS2S
import Derived.Test.YtcpcplaeaimmpaaGreatDoorTie
namespace Go.Proofs.YtcpcplaeaimmpaaGreatDoor
open Go.ChangeShapes Go.WideShapes Go.ChangeAt Go.RowKit
theorem plain(f:FuncId)(fn:Func)(hf:Tryz.pinned.checked.prog.funcNamed "tarn/tarnkeep.Spoilt"=some f)(hfn:Tryz.pinned.checked.prog.funcs[f]?=some fn):
 true=Tryz.pinned.checked.prog.looks []∧∀(j:Nat) t,fn.params[j]?=some t->Tryz.pinned.checked.prog.wantsStandIn t=false:=by
 obtain rfl:f=4:=Option.some.inj ((show Tryz.prog.funcNamed "tarn/tarnkeep.Spoilt"=some 4 by kernel_rfl).symm.trans hf)|>.symm;obtain rfl:fn=Tryz.f4:=(Option.some.inj (Tryz.func4.symm.trans hfn)).symm;refine⟨by kernel_rfl,λj t ht=>?_⟩;rw[Tryz.params4]at ht;have hm:=Array.mem_of_getElem? ht;simp only[List.mem_toArray,List.mem_cons,List.not_mem_nil,or_false]at hm;rcases hm with rfl|rfl|rfl
 ·exact(show Tryz.prog.wantsStandIn 25=false by kernel_rfl)
 ·exact(show Tryz.prog.wantsStandIn 3=false by kernel_rfl)
 ·exact(show Tryz.prog.wantsStandIn 38=false by kernel_rfl)
theorem spoilt_wf:Rows.spoiltRow.wfByText (OpenSpec.ofChange Rows.spoiltSpec)=true:=by kernel_rfl
theorem spoilt_main:Tryz.pinned.checked.prog.mainIs=some (Rows.spoiltCard.stood.harness.1,Rows.spoiltCard.stood.harness.2.toList):=by kernel_rfl
theorem spoilt_goes:false=Rows.spoiltRow.goesBy Tryz.pinned.checked.prog:=by kernel_rfl
theorem spoilt_card:Rows.SpoiltCardSaid:=
 Claim7.holds_tied_plain_at .later [] Rows.spoiltCard.laidKinds true Rows.spoiltCard.stood.harness true spoilt_said (λ_ h=>by cases h) spoilt_wf (λ_ h=>by cases h) spoilt_row_tie rfl ⟨rfl,rfl⟩ spoilt_main rfl plain spoilt_goes
end Go.Proofs.YtcpcplaeaimmpaaGreatDoor
