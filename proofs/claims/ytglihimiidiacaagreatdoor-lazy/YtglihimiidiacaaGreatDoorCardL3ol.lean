import Derived.Test.YtglihimiidiacaaGreatDoorCardL2ol
import Derived.Test.YtglihimiidiacaaGreatDoorTie
import Derived.Test.YtglihimiidiacaaGreatDoorLAll
namespace Go.Proofs.YtglihimiidiacaaGreatDoor
open Go.ChangeShapes Go.WideShapes Go.ChangeAt Go.RowKit

theorem plain (f : FuncId) (fn : Func) (hf : Tryz.pinned.checked.prog.funcNamed "tarn/tarnkeep.Lazy" = some f) (hfn : Tryz.pinned.checked.prog.funcs[f]? = some fn) :
    true = Tryz.pinned.checked.prog.looks [] ∧ ∀ (j : Nat) t, fn.params[j]? = some t → Tryz.pinned.checked.prog.wantsStandIn t = false := by
  obtain rfl : f = 3 := Option.some.inj ((show Tryz.prog.funcNamed "tarn/tarnkeep.Lazy" = some 3 by kernel_rfl).symm.trans hf) |>.symm
  obtain rfl : fn = Tryz.f3 := (Option.some.inj (Tryz.func3.symm.trans hfn)).symm
  refine ⟨by kernel_rfl, fun j t ht => ?_⟩
  rw [Tryz.params3] at ht
  have hm := Array.mem_of_getElem? ht
  simp only [List.mem_toArray, List.mem_cons, List.not_mem_nil, or_false] at hm
  rcases hm with rfl | rfl | rfl
  · exact (show Tryz.prog.wantsStandIn 3 = false by kernel_rfl)
  · exact (show Tryz.prog.wantsStandIn 3 = false by kernel_rfl)
  · exact (show Tryz.prog.wantsStandIn 3 = false by kernel_rfl)

theorem lazy_wf : Rows.lazyRow.wfByText (OpenSpec.ofChange Rows.lazySpec) = true := by kernel_rfl
theorem lazy_main : Tryz.pinned.checked.prog.mainIs = some (Rows.lazyCard.stood.harness.1, Rows.lazyCard.stood.harness.2.toList) := by kernel_rfl
theorem lazy_goes : false = Rows.lazyRow.goesBy Tryz.pinned.checked.prog := by kernel_rfl

/-- the card -/
theorem lazy_card : Rows.LazyCardSaid :=
  Claim7.holds_tied_plain_at .later [] Rows.lazyCard.laidKinds true Rows.lazyCard.stood.harness true (lazy_said Ev8.l_all) (fun _ h => by cases h) lazy_wf (fun _ h => by cases h) lazy_row_tie rfl ⟨rfl, rfl⟩ lazy_main rfl plain lazy_goes

end Go.Proofs.YtglihimiidiacaaGreatDoor
