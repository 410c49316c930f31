/-
  DERIVED. GIVEN WITH THE SEED: THE CARDS: each row of YtonodfjdiepglaaGreatDoorRows.lean that lists a variable, with what it lists TIED to the program's text (the seventh form; the later family's looks); each row that meets fmt, with fmt's text TOLD by the authors' own Lean function (tested against real Go, not proved from fmt's source: count such statements apart). THE CARD IS WHAT COUNTS. Prove the row's statement (the work); the ties are given (YtonodfjdiepglaaGreatDoorTie.lean); close each card by the builder's one call (the guide's Derived/Test/ToyasCard.lean, 'card_holds'). Laid BY PROGRAM, IN A SANDBOX (cutbox-door.mjs). By AI agents, Wed Nov 11 2026. No macro, syntax, notation, axiom, sorry.
-/
import Derived.Test.YtonodfjdiepglaaGreatDoorRows
import GoSem.ClaimSeven
namespace Go.Proofs.YtonodfjdiepglaaGreatDoor
namespace Rows

/-- THE TIED CARD OF 'kernelslaw.Lines'. -/
def linesCard : Claim7 := { stood := { row := linesRow, standIns := [], harness := (true, "3368bb9cfd4d5e3ac8fa3b44e95f2f9b2150590ef8ff9757d264917f172bf2fe"), looks := false }, kinds := [], alts := [], laidByText := true, laidKinds := [.data, .data, .data], laidTests := true, laidLooks := .later }
def LinesCardSaid : Prop := Claim7.holds Tryz.pinned (.plain (OpenSpec.ofChange linesSpec)) linesCard

/-- THE SECOND FORM's CARD OF 'kernelslaw.Lines'. -/
def linesUptoCard : Claim7 := { stood := { row := linesUptoRow, standIns := [], harness := (true, "3368bb9cfd4d5e3ac8fa3b44e95f2f9b2150590ef8ff9757d264917f172bf2fe"), looks := false }, kinds := [], alts := [], laidByText := true, laidKinds := [.data, .data, .data], laidTests := true, laidLooks := .later }
def LinesUptoCardSaid : Prop := Claim7.holds Tryz.pinned (.plain (OpenSpec.upto linesSpec)) linesUptoCard
end Rows
end Go.Proofs.YtonodfjdiepglaaGreatDoor
