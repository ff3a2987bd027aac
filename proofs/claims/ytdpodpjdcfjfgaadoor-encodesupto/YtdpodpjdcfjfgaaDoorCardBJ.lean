import Derived.Test.YtdpodpjdcfjfgaaDoorCards
import Derived.Test.YtdpodpjdcfjfgaaDoorTie
import Derived.Test.YtdpodpjdcfjfgaaDoorLaidJ
import Derived.WalkKit
import Derived.ProofKit
import Derived.Deep.DeepHandedRow
import Derived.Deep.DeepLaidRun
import Derived.Carry
namespace Go.Proofs.YtdpodpjdcfjfgaaDoor
open Go.ChangeShapes Go.WideShapes Go.ChangeAt Go.RowKit

theorem Tryd.own : ownKnob Tryd.prog.godebug = none := by kernel_rfl
theorem Tryd.laidOut : laidOutB Tryd.prog = true := by kernel_rfl
theorem Tryd.readObj : Tryd.prog.readableRec 25 = true := by kernel_rfl

noncomputable def low : Nat := (World.holding Tryd.prog default ⟨#[], #[], []⟩).heap.size
/-- a world for the witness: the settled one, the listed variables holding what the row lists -/
noncomputable def laidWorld (os : Os) : World :=
  let w0 := World.holding Tryd.prog os ⟨((List.range 19).map fun i => Obj.cells #[.string ⟨(kTxt i).toArray⟩] 176).toArray, #[], []⟩
  { w0 with heap := (((List.range 19).foldl (fun (h : Array Obj) i => h.modify (kNum i) fun
      | .cells _ t frozen => .cells #[.iface 155 (.pointer (some ⟨low + i, 0, none⟩))] t frozen
      | o => o) w0.heap).modify 19 fun
      | .cells _ t frozen => .cells #[.iface 123 (.agg #[.pointer (some ⟨22, 52, none⟩)])] t frozen
      | o => o).modify 20 fun
      | .cells _ t frozen => .cells (rowsTab.map fun z => Value.int .i64 z).toArray t frozen
      | o => o }
def arg0 : Value := .agg #[.string ⟨#[]⟩, .slice none 0 0, .slice none 0 0]

end Go.Proofs.YtdpodpjdcfjfgaaDoor
