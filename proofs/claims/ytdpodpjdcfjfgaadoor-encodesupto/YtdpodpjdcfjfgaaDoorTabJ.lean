import Derived.Test.YtdpodpjdcfjfgaaDoorDatJ
namespace Go.Proofs.YtdpodpjdcfjfgaaDoor
open Go.RowKit

/-- the rows of the table of instructions: kind, least, most, need, needEach, more, moreEach -/
def rowsTab : List Int := [1, 0, 0, 0, 0, 1, 0,
  2, 0, 65535, 0, 0, 1, 0,
  2, 0, 1000, 1, 1, 1, 0,
  0, 0, 0, 2, 0, -1, 0,
  2, 0, 1000, 1, 1, 0, -1,
  2, 0, 1000, 2, 1, -1, 0,
  2, 0, 1000, 0, 1, 0, -1,
  2, 1, 1000, 0, 0, 0, 1,
  0, 0, 0, 1, 0, 0, 0,
  0, 0, 0, 2, 0, -1, 0,
  0, 0, 0, 2, 0, -1, 0,
  0, 0, 0, 2, 0, -1, 0,
  0, 0, 0, 2, 0, -1, 0,
  0, 0, 0, 2, 0, -1, 0,
  0, 0, 0, 2, 0, -1, 0,
  2, 0, 65535, 0, 1, 1, -1,
  2, 0, 255, 1, 0, -1, 1,
  3, 0, 0, 1, 0, 0, 0,
  2, 0, 65535, 0, 0, 0, 0,
  0, 0, 0, 1, 0, 0, 0,
  0, 0, 0, 0, 0, 0, 0]
def rowN (k j : Nat) : Int := rowsTab.getD (k * 7 + j) 0
def TabAt (w : World) : Prop := ∀ i, i < 147 → w.cell? ⟨20, i, none⟩ = some (.int .i64 (rowsTab.getD i 0))
theorem TabAt.keep {w w' : World} (hb : Below w.heap.size w w') (h : TabAt w) : TabAt w' := fun i hi => cell_keep hb (h i hi)
theorem TabAt.row {w : World} (h : TabAt w) (k j : Nat) (hk : k < 21) (hj : j < 7) : w.cell? ⟨20, k * 7 + j, none⟩ = some (.int .i64 (rowN k j)) := h _ (by omega)

end Go.Proofs.YtdpodpjdcfjfgaaDoor
