import Derived.Test.YtchekcabddjdiaaGreatDoorCardT22
import Derived.Test.YtchekcabddjdiaaGreatDoorTie
import Derived.Test.YtchekcabddjdiaaGreatDoorKAll
namespace Go.Proofs.YtchekcabddjdiaaGreatDoor
open Go.ChangeShapes Go.WideShapes Go.ChangeAt Go.RowKit

theorem plain (f : FuncId) (fn : Func) (hf : Tryz.pinned.checked.prog.funcNamed "tarn/tarnkeep.Counted" = some f) (hfn : Tryz.pinned.checked.prog.funcs[f]? = some fn) :
    true = Tryz.pinned.checked.prog.looks [] ∧ ∀ (j : Nat) t, fn.params[j]? = some t → Tryz.pinned.checked.prog.wantsStandIn t = false := by
  obtain rfl : f = 3 := Option.some.inj ((show Tryz.prog.funcNamed "tarn/tarnkeep.Counted" = some 3 by kernel_rfl).symm.trans hf) |>.symm
  obtain rfl : fn = Tryz.f3 := (Option.some.inj (Tryz.func3.symm.trans hfn)).symm
  refine ⟨by kernel_rfl, fun j t ht => ?_⟩
  rw [Tryz.params3] at ht
  have hm := Array.mem_of_getElem? ht
  simp only [List.mem_toArray, List.mem_cons, List.not_mem_nil, or_false] at hm
  rcases hm with rfl | rfl
  · exact (show Tryz.prog.wantsStandIn 3 = false by kernel_rfl)
  · exact (show Tryz.prog.wantsStandIn 4 = false by kernel_rfl)

theorem counted_wf : Rows.countedRow.wfByText (OpenSpec.ofChange Rows.countedSpec) = true := by kernel_rfl
theorem counted_main : Tryz.pinned.checked.prog.mainIs = some (Rows.countedCard.stood.harness.1, Rows.countedCard.stood.harness.2.toList) := by kernel_rfl
theorem counted_goes : false = Rows.countedRow.goesBy Tryz.pinned.checked.prog := by kernel_rfl

/-- the card -/
theorem counted_card : Rows.CountedCardSaid :=
  Claim7.holds_tied_plain_at .later [] Rows.countedCard.laidKinds true Rows.countedCard.stood.harness true (counted_said k_all) (fun _ h => by cases h) counted_wf (fun _ h => by cases h) counted_row_tie rfl ⟨rfl, rfl⟩ counted_main rfl plain counted_goes

end Go.Proofs.YtchekcabddjdiaaGreatDoor
