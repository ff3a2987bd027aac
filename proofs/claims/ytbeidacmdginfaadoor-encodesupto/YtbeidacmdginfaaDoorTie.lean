/-
  DERIVED. GIVEN WITH THE SEED: THE PROGRAM's TIES (one call each: nine closed facts by the kernel) AND EACH ROW's TIE, after the 31st guide's Derived/Test/Toyas{Tie, Card}.lean. No idea stands in it: it is a product of the set-up. Laid BY PROGRAM, IN A SANDBOX (cutbox-door.mjs). By AI agents, Wed Nov 11 2026. No macro, syntax, notation, axiom, sorry.
-/
import Derived.Test.YtbeidacmdginfaaDoorRows
import Derived.LaidByTextLater
import Derived.SevenTiedAt
import Derived.LaidSub
import Derived.LaidOnce
namespace Go.Proofs.YtbeidacmdginfaaDoor
open Go
set_option maxRecDepth 100000
theorem seatTie1 : Tryd.prog.laidByTextLater [("errors.errorType", Rows.laid_errors_errorType), ("tarn/fault.Long", Rows.laid_tarn_fault_Long), ("tarn/fault.Name", Rows.laid_tarn_fault_Name), ("tarn/fault.Short", Rows.laid_tarn_fault_Short), ("tarn/fault.Sum", Rows.laid_tarn_fault_Sum), ("tarn/fault.Form", Rows.laid_tarn_fault_Form), ("tarn/fault.Varint", Rows.laid_tarn_fault_Varint), ("tarn/fault.Order", Rows.laid_tarn_fault_Order), ("tarn/fault.More", Rows.laid_tarn_fault_More), ("tarn/fault.Index", Rows.laid_tarn_fault_Index), ("tarn/fault.Jump", Rows.laid_tarn_fault_Jump), ("tarn/fault.Depth", Rows.laid_tarn_fault_Depth), ("tarn/fault.Value", Rows.laid_tarn_fault_Value), ("tarn/object.rows", Rows.laid_tarn_object_rows)] [.handle, .sentinel, .sentinel, .sentinel, .sentinel, .sentinel, .sentinel, .sentinel, .sentinel, .sentinel, .sentinel, .sentinel, .sentinel, .data] true :=
  Program.laidByTextLater_by_one 270 8 148 (by kernel_rfl) (by kernel_rfl) (by kernel_rfl) (by kernel_rfl) (by kernel_rfl) (by kernel_rfl) (fun _ _ => by kernel_rfl)
theorem noOwnUnsafe : Tryd.pinned.checked.prog.headLifts.contains "ownunsafe" = false := by kernel_rfl
theorem tie : Tryd.prog.laidByTextLater [("errors.errorType", Rows.laid_errors_errorType), ("tarn/fault.Long", Rows.laid_tarn_fault_Long), ("tarn/fault.Name", Rows.laid_tarn_fault_Name), ("tarn/fault.Short", Rows.laid_tarn_fault_Short), ("tarn/fault.Sum", Rows.laid_tarn_fault_Sum), ("tarn/fault.Form", Rows.laid_tarn_fault_Form), ("tarn/fault.Varint", Rows.laid_tarn_fault_Varint), ("tarn/fault.Order", Rows.laid_tarn_fault_Order), ("tarn/fault.More", Rows.laid_tarn_fault_More), ("tarn/fault.Index", Rows.laid_tarn_fault_Index), ("tarn/fault.Jump", Rows.laid_tarn_fault_Jump), ("tarn/fault.Depth", Rows.laid_tarn_fault_Depth), ("tarn/fault.Value", Rows.laid_tarn_fault_Value), ("tarn/object.rows", Rows.laid_tarn_object_rows)] [.handle, .sentinel, .sentinel, .sentinel, .sentinel, .sentinel, .sentinel, .sentinel, .sentinel, .sentinel, .sentinel, .sentinel, .sentinel, .data] true :=
  Program.laidByTextLater.sub seatTie1 ["errors.errorType", "tarn/fault.Long", "tarn/fault.Name", "tarn/fault.Short", "tarn/fault.Sum", "tarn/fault.Form", "tarn/fault.Varint", "tarn/fault.Order", "tarn/fault.More", "tarn/fault.Index", "tarn/fault.Jump", "tarn/fault.Depth", "tarn/fault.Value", "tarn/object.rows"] (by kernel_rfl) (by kernel_rfl)
theorem sounds_row_tie : Rows.soundsRow.laidByTextAt .later Tryd.pinned [.handle, .sentinel, .sentinel, .sentinel, .sentinel, .sentinel, .sentinel, .sentinel, .sentinel, .sentinel, .sentinel, .sentinel, .sentinel, .data] true :=
  OpenClaim.laidByTextAt_later rfl rfl tie noOwnUnsafe
theorem tie2 : Tryd.prog.laidByTextLater [("tarn/fault.Long", Rows.laid_tarn_fault_Long), ("tarn/fault.Name", Rows.laid_tarn_fault_Name), ("tarn/fault.Short", Rows.laid_tarn_fault_Short), ("tarn/fault.Sum", Rows.laid_tarn_fault_Sum), ("tarn/fault.Form", Rows.laid_tarn_fault_Form), ("tarn/fault.Varint", Rows.laid_tarn_fault_Varint), ("tarn/fault.Order", Rows.laid_tarn_fault_Order), ("tarn/fault.More", Rows.laid_tarn_fault_More), ("tarn/fault.Index", Rows.laid_tarn_fault_Index), ("tarn/fault.Jump", Rows.laid_tarn_fault_Jump), ("tarn/fault.Depth", Rows.laid_tarn_fault_Depth), ("tarn/fault.Value", Rows.laid_tarn_fault_Value), ("tarn/object.rows", Rows.laid_tarn_object_rows)] [.sentinel, .sentinel, .sentinel, .sentinel, .sentinel, .sentinel, .sentinel, .sentinel, .sentinel, .sentinel, .sentinel, .sentinel, .data] true :=
  Program.laidByTextLater.sub seatTie1 ["tarn/fault.Long", "tarn/fault.Name", "tarn/fault.Short", "tarn/fault.Sum", "tarn/fault.Form", "tarn/fault.Varint", "tarn/fault.Order", "tarn/fault.More", "tarn/fault.Index", "tarn/fault.Jump", "tarn/fault.Depth", "tarn/fault.Value", "tarn/object.rows"] (by kernel_rfl) (by kernel_rfl)
theorem encodes_row_tie : Rows.encodesRow.laidByTextAt .later Tryd.pinned [.sentinel, .sentinel, .sentinel, .sentinel, .sentinel, .sentinel, .sentinel, .sentinel, .sentinel, .sentinel, .sentinel, .sentinel, .data] true :=
  OpenClaim.laidByTextAt_later rfl rfl tie2 noOwnUnsafe
theorem soundsUpto_row_tie : Rows.soundsUptoRow.laidByTextAt .later Tryd.pinned [.handle, .sentinel, .sentinel, .sentinel, .sentinel, .sentinel, .sentinel, .sentinel, .sentinel, .sentinel, .sentinel, .sentinel, .sentinel, .data] true :=
  OpenClaim.laidByTextAt_later rfl rfl tie noOwnUnsafe
theorem encodesUpto_row_tie : Rows.encodesUptoRow.laidByTextAt .later Tryd.pinned [.sentinel, .sentinel, .sentinel, .sentinel, .sentinel, .sentinel, .sentinel, .sentinel, .sentinel, .sentinel, .sentinel, .sentinel, .data] true :=
  OpenClaim.laidByTextAt_later rfl rfl tie2 noOwnUnsafe
end Go.Proofs.YtbeidacmdginfaaDoor
