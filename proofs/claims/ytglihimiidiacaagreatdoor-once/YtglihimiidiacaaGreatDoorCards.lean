/-
  DERIVED. GIVEN WITH THE SEED: THE CARDS: each row of YtglihimiidiacaaGreatDoorRows.lean that lists a variable, with what it lists TIED to the program's text (the seventh form; the later family's looks); each row that meets fmt, with fmt's text TOLD by the authors' own Lean function (tested against real Go, not proved from fmt's source: count such statements apart). THE CARD IS WHAT COUNTS. Prove the row's statement (the work); the ties are given (YtglihimiidiacaaGreatDoorTie.lean); close each card by the builder's one call (the guide's Derived/Test/ToyasCard.lean, 'card_holds'). Laid BY PROGRAM, IN A SANDBOX (cutbox-door.mjs). By AI agents, Wed Nov 11 2026. No macro, syntax, notation, axiom, sorry.
-/
import Derived.Test.YtglihimiidiacaaGreatDoorRows
import GoSem.ClaimSeven
namespace Go.Proofs.YtglihimiidiacaaGreatDoor
namespace Rows

/-- THE TIED CARD OF 'tarnkeep.Lazy'. -/
def lazyCard : Claim7 := { stood := { row := lazyRow, standIns := [], harness := (true, "9a1caaa8b41f4dd978427a2b6b40c6831e0a3be7023575b8ecae9e06e398be3f"), looks := true }, kinds := [], alts := [], laidByText := true, laidKinds := [.data, .data, .data, .handle, .sentinel, .sentinel, .sentinel, .sentinel, .sentinel, .sentinel, .sentinel, .sentinel, .sentinel, .sentinel, .sentinel, .sentinel, .sentinel, .sentinel, .sentinel, .sentinel, .sentinel, .sentinel, .sentinel, .sentinel, .sentinel, .data], laidTests := true, laidLooks := .later }
def LazyCardSaid : Prop := Claim7.holds Tryz.pinned (.plain (OpenSpec.ofChange lazySpec)) lazyCard

/-- THE TIED CARD OF 'tarnkeep.Once'. -/
def onceCard : Claim7 := { stood := { row := onceRow, standIns := [], harness := (true, "9a1caaa8b41f4dd978427a2b6b40c6831e0a3be7023575b8ecae9e06e398be3f"), looks := true }, kinds := [], alts := [], laidByText := true, laidKinds := [.data, .data, .data, .handle, .sentinel, .sentinel, .sentinel, .sentinel, .sentinel, .sentinel, .sentinel, .sentinel, .sentinel, .sentinel, .sentinel, .sentinel, .sentinel, .sentinel, .sentinel, .sentinel, .sentinel, .sentinel, .sentinel, .sentinel, .sentinel, .data], laidTests := true, laidLooks := .later }
def OnceCardSaid : Prop := Claim7.holds Tryz.pinned (.plain (OpenSpec.ofChange onceSpec)) onceCard

/-- THE SECOND FORM's CARD OF 'tarnkeep.Lazy'. -/
def lazyUptoCard : Claim7 := { stood := { row := lazyUptoRow, standIns := [], harness := (true, "9a1caaa8b41f4dd978427a2b6b40c6831e0a3be7023575b8ecae9e06e398be3f"), looks := true }, kinds := [], alts := [], laidByText := true, laidKinds := [.data, .data, .data, .handle, .sentinel, .sentinel, .sentinel, .sentinel, .sentinel, .sentinel, .sentinel, .sentinel, .sentinel, .sentinel, .sentinel, .sentinel, .sentinel, .sentinel, .sentinel, .sentinel, .sentinel, .sentinel, .sentinel, .sentinel, .sentinel, .data], laidTests := true, laidLooks := .later }
def LazyUptoCardSaid : Prop := Claim7.holds Tryz.pinned (.plain (OpenSpec.upto lazySpec)) lazyUptoCard

/-- THE SECOND FORM's CARD OF 'tarnkeep.Once'. -/
def onceUptoCard : Claim7 := { stood := { row := onceUptoRow, standIns := [], harness := (true, "9a1caaa8b41f4dd978427a2b6b40c6831e0a3be7023575b8ecae9e06e398be3f"), looks := true }, kinds := [], alts := [], laidByText := true, laidKinds := [.data, .data, .data, .handle, .sentinel, .sentinel, .sentinel, .sentinel, .sentinel, .sentinel, .sentinel, .sentinel, .sentinel, .sentinel, .sentinel, .sentinel, .sentinel, .sentinel, .sentinel, .sentinel, .sentinel, .sentinel, .sentinel, .sentinel, .sentinel, .data], laidTests := true, laidLooks := .later }
def OnceUptoCardSaid : Prop := Claim7.holds Tryz.pinned (.plain (OpenSpec.upto onceSpec)) onceUptoCard
end Rows
end Go.Proofs.YtglihimiidiacaaGreatDoor
