/-
  DERIVED. GIVEN WITH THE SEED: THE CARDS: each row of YtcacpmkdfnmhaaaGreatDoorRows.lean that lists a variable, with what it lists TIED to the program's text (the seventh form; the later family's looks); each row that meets fmt, with fmt's text TOLD by the authors' own Lean function (tested against real Go, not proved from fmt's source: count such statements apart). THE CARD IS WHAT COUNTS. Prove the row's statement (the work); the ties are given (YtcacpmkdfnmhaaaGreatDoorTie.lean); close each card by the builder's one call (the guide's Derived/Test/ToyasCard.lean, 'card_holds'). Laid BY PROGRAM, IN A SANDBOX (cutbox-door.mjs). By AI agents, Wed Nov 11 2026. No macro, syntax, notation, axiom, sorry.
-/
import Derived.Test.YtcacpmkdfnmhaaaGreatDoorRows
import GoSem.ClaimSeven
namespace Go.Proofs.YtcacpmkdfnmhaaaGreatDoor
namespace Rows

/-- THE TIED CARD OF 'tarnkeep.Less'. -/
def lessCard : Claim7 := { stood := { row := lessRow, standIns := [], harness := (true, "4e816ebd50fbf952e60e5cbd1374acbf8f8002d8fdd79d3568a9778db938decc"), looks := true }, kinds := [], alts := [], laidByText := true, laidKinds := [.data, .data, .data, .handle, .sentinel, .sentinel, .sentinel, .sentinel, .sentinel, .sentinel, .sentinel, .sentinel, .sentinel, .sentinel, .sentinel, .sentinel, .sentinel, .sentinel, .sentinel, .sentinel, .sentinel, .sentinel, .sentinel, .sentinel, .sentinel, .data], laidTests := true, laidLooks := .later }
def LessCardSaid : Prop := Claim7.holds Tryz.pinned (.plain (OpenSpec.ofChange lessSpec)) lessCard

/-- THE SECOND FORM's CARD OF 'tarnkeep.Less'. -/
def lessUptoCard : Claim7 := { stood := { row := lessUptoRow, standIns := [], harness := (true, "4e816ebd50fbf952e60e5cbd1374acbf8f8002d8fdd79d3568a9778db938decc"), looks := true }, kinds := [], alts := [], laidByText := true, laidKinds := [.data, .data, .data, .handle, .sentinel, .sentinel, .sentinel, .sentinel, .sentinel, .sentinel, .sentinel, .sentinel, .sentinel, .sentinel, .sentinel, .sentinel, .sentinel, .sentinel, .sentinel, .sentinel, .sentinel, .sentinel, .sentinel, .sentinel, .sentinel, .data], laidTests := true, laidLooks := .later }
def LessUptoCardSaid : Prop := Claim7.holds Tryz.pinned (.plain (OpenSpec.upto lessSpec)) lessUptoCard
end Rows
end Go.Proofs.YtcacpmkdfnmhaaaGreatDoor
