/-
  DERIVED. GIVEN WITH THE SEED: THE CARDS: each row of YtlccndplhfcknaaGreatDoorRows.lean that lists a variable, with what it lists TIED to the program's text (the seventh form; the later family's looks); each row that meets fmt, with fmt's text TOLD by the authors' own Lean function (tested against real Go, not proved from fmt's source: count such statements apart). THE CARD IS WHAT COUNTS. Prove the row's statement (the work); the ties are given (YtlccndplhfcknaaGreatDoorTie.lean); close each card by the builder's one call (the guide's Derived/Test/ToyasCard.lean, 'card_holds'). Laid BY PROGRAM, IN A SANDBOX (cutbox-door.mjs). By AI agents, Wed Nov 11 2026. No macro, syntax, notation, axiom, sorry.
-/
import Derived.Test.YtlccndplhfcknaaGreatDoorRows
import GoSem.ClaimSeven
namespace Go.Proofs.YtlccndplhfcknaaGreatDoor
namespace Rows

/-- THE TIED CARD OF 'tarnlaw.Links'. -/
def linksCard : Claim7 := { stood := { row := linksRow, standIns := [], harness := (true, "c801293e5a528c3c78dff3b6a43b4ae74a2e9f0382249fa18ce613d6e4d4cd92"), looks := true }, kinds := [], alts := [], laidByText := true, laidKinds := [.data, .data, .data, .handle, .sentinel, .sentinel, .sentinel, .sentinel, .sentinel, .sentinel, .sentinel, .sentinel, .sentinel, .sentinel, .sentinel, .sentinel, .sentinel, .sentinel, .sentinel, .sentinel, .sentinel, .sentinel, .sentinel, .data], laidTests := true, laidLooks := .later }
def LinksCardSaid : Prop := Claim7.holds Tryz.pinned (.plain (OpenSpec.ofChange linksSpec)) linksCard

/-- THE SECOND FORM's CARD OF 'tarnlaw.Links'. -/
def linksUptoCard : Claim7 := { stood := { row := linksUptoRow, standIns := [], harness := (true, "c801293e5a528c3c78dff3b6a43b4ae74a2e9f0382249fa18ce613d6e4d4cd92"), looks := true }, kinds := [], alts := [], laidByText := true, laidKinds := [.data, .data, .data, .handle, .sentinel, .sentinel, .sentinel, .sentinel, .sentinel, .sentinel, .sentinel, .sentinel, .sentinel, .sentinel, .sentinel, .sentinel, .sentinel, .sentinel, .sentinel, .sentinel, .sentinel, .sentinel, .sentinel, .data], laidTests := true, laidLooks := .later }
def LinksUptoCardSaid : Prop := Claim7.holds Tryz.pinned (.plain (OpenSpec.upto linksSpec)) linksUptoCard
end Rows
end Go.Proofs.YtlccndplhfcknaaGreatDoor
