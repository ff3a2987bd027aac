import Derived.Test.YtglihimiidiacaaGreatDoorCardO2ol
import Derived.Test.YtglihimiidiacaaGreatDoorTie
import Derived.Test.YtglihimiidiacaaGreatDoorOAll
namespace Go.Proofs.YtglihimiidiacaaGreatDoor
open Go.ChangeShapes Go.WideShapes Go.ChangeAt Go.RowKit

theorem plain (f : FuncId) (fn : Func) (hf : Tryz.pinned.checked.prog.funcNamed "tarn/tarnkeep.Once" = some f) (hfn : Tryz.pinned.checked.prog.funcs[f]? = some fn) :
    true = Tryz.pinned.checked.prog.looks [] ∧ ∀ (j : Nat) t, fn.params[j]? = some t → Tryz.pinned.checked.prog.wantsStandIn t = false := by
  obtain rfl : f = 4 := Option.some.inj ((show Tryz.prog.funcNamed "tarn/tarnkeep.Once" = some 4 by kernel_rfl).symm.trans hf) |>.symm
  obtain rfl : fn = Tryz.f4 := (Option.some.inj (Tryz.func4.symm.trans hfn)).symm
  refine ⟨by kernel_rfl, fun j t ht => ?_⟩
  rw [Tryz.params4] at ht
  have hm := Array.mem_of_getElem? ht
  simp only [List.mem_toArray, List.mem_cons, List.not_mem_nil, or_false] at hm
  rcases hm with rfl | rfl | rfl
  · exact (show Tryz.prog.wantsStandIn 3 = false by kernel_rfl)
  · exact (show Tryz.prog.wantsStandIn 3 = false by kernel_rfl)
  · exact (show Tryz.prog.wantsStandIn 4 = false by kernel_rfl)

theorem once_wf : Rows.onceRow.wfByText (OpenSpec.ofChange Rows.onceSpec) = true := by kernel_rfl
theorem once_main : Tryz.pinned.checked.prog.mainIs = some (Rows.onceCard.stood.harness.1, Rows.onceCard.stood.harness.2.toList) := by kernel_rfl
theorem once_goes : false = Rows.onceRow.goesBy Tryz.pinned.checked.prog := by kernel_rfl

/-- the card -/
theorem once_card : Rows.OnceCardSaid :=
  Claim7.holds_tied_plain_at .later [] Rows.onceCard.laidKinds true Rows.onceCard.stood.harness true (once_said Ev8.o_all) (fun _ h => by cases h) once_wf (fun _ h => by cases h) once_row_tie rfl ⟨rfl, rfl⟩ once_main rfl plain once_goes

end Go.Proofs.YtglihimiidiacaaGreatDoor
