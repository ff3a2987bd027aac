/-
  DERIVED. GIVEN WITH THE SEED: THE CARDS: each row of YtdpodpjdcfjfgaaDoorRows.lean that lists a variable, with what it lists TIED to the program's text (the seventh form; the later family's looks); each row that meets fmt, with fmt's text TOLD by the authors' own Lean function (tested against real Go, not proved from fmt's source: count such statements apart). THE CARD IS WHAT COUNTS. Prove the row's statement (the work); the ties are given (YtdpodpjdcfjfgaaDoorTie.lean); close each card by the builder's one call (the guide's Derived/Test/ToyasCard.lean, 'card_holds'). Laid BY PROGRAM, IN A SANDBOX (cutbox-door.mjs). By AI agents, Wed Nov 11 2026. No macro, syntax, notation, axiom, sorry.
-/
import Derived.Test.YtdpodpjdcfjfgaaDoorRows
import GoSem.ClaimSeven
namespace Go.Proofs.YtdpodpjdcfjfgaaDoor
namespace Rows

/-- THE TIED CARD OF 'tarnlaw.Sounds'. -/
def soundsCard : Claim7 := { stood := { row := soundsRow, standIns := [], harness := (true, "fbc4db04de7254eae242890707bf1385f2b0bcf0d4cfdfb49ed5560f78e0e19b"), looks := true }, kinds := [], alts := [], laidByText := true, laidKinds := [.handle, .sentinel, .sentinel, .sentinel, .sentinel, .sentinel, .sentinel, .sentinel, .sentinel, .sentinel, .sentinel, .sentinel, .sentinel, .sentinel, .sentinel, .sentinel, .sentinel, .sentinel, .sentinel, .sentinel, .data], laidTests := true, laidLooks := .later }
def SoundsCardSaid : Prop := Claim7.holds Tryd.pinned (.plain (OpenSpec.ofChange soundsSpec)) soundsCard

/-- THE TIED CARD OF 'tarnlaw.Encodes'. -/
def encodesCard : Claim7 := { stood := { row := encodesRow, standIns := [], harness := (true, "fbc4db04de7254eae242890707bf1385f2b0bcf0d4cfdfb49ed5560f78e0e19b"), looks := true }, kinds := [], alts := [], laidByText := true, laidKinds := [.sentinel, .sentinel, .sentinel, .sentinel, .sentinel, .sentinel, .sentinel, .sentinel, .sentinel, .sentinel, .sentinel, .sentinel, .sentinel, .sentinel, .sentinel, .sentinel, .sentinel, .sentinel, .sentinel, .data], laidTests := true, laidLooks := .later }
def EncodesCardSaid : Prop := Claim7.holds Tryd.pinned (.plain (OpenSpec.ofChange encodesSpec)) encodesCard

/-- THE SECOND FORM's CARD OF 'tarnlaw.Sounds'. -/
def soundsUptoCard : Claim7 := { stood := { row := soundsUptoRow, standIns := [], harness := (true, "fbc4db04de7254eae242890707bf1385f2b0bcf0d4cfdfb49ed5560f78e0e19b"), looks := true }, kinds := [], alts := [], laidByText := true, laidKinds := [.handle, .sentinel, .sentinel, .sentinel, .sentinel, .sentinel, .sentinel, .sentinel, .sentinel, .sentinel, .sentinel, .sentinel, .sentinel, .sentinel, .sentinel, .sentinel, .sentinel, .sentinel, .sentinel, .sentinel, .data], laidTests := true, laidLooks := .later }
def SoundsUptoCardSaid : Prop := Claim7.holds Tryd.pinned (.plain (OpenSpec.upto soundsSpec)) soundsUptoCard

/-- THE SECOND FORM's CARD OF 'tarnlaw.Encodes'. -/
def encodesUptoCard : Claim7 := { stood := { row := encodesUptoRow, standIns := [], harness := (true, "fbc4db04de7254eae242890707bf1385f2b0bcf0d4cfdfb49ed5560f78e0e19b"), looks := true }, kinds := [], alts := [], laidByText := true, laidKinds := [.sentinel, .sentinel, .sentinel, .sentinel, .sentinel, .sentinel, .sentinel, .sentinel, .sentinel, .sentinel, .sentinel, .sentinel, .sentinel, .sentinel, .sentinel, .sentinel, .sentinel, .sentinel, .sentinel, .data], laidTests := true, laidLooks := .later }
def EncodesUptoCardSaid : Prop := Claim7.holds Tryd.pinned (.plain (OpenSpec.upto encodesSpec)) encodesUptoCard
end Rows
end Go.Proofs.YtdpodpjdcfjfgaaDoor
