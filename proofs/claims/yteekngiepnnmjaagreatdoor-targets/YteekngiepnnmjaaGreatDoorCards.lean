/-
  DERIVED. GIVEN WITH THE SEED: THE CARDS: each row of YteekngiepnnmjaaGreatDoorRows.lean that lists a variable, with what it lists TIED to the program's text (the seventh form; the later family's looks); each row that meets fmt, with fmt's text TOLD by the authors' own Lean function (tested against real Go, not proved from fmt's source: count such statements apart). THE CARD IS WHAT COUNTS. Prove the row's statement (the work); the ties are given (YteekngiepnnmjaaGreatDoorTie.lean); close each card by the builder's one call (the guide's Derived/Test/ToyasCard.lean, 'card_holds'). Laid BY PROGRAM, IN A SANDBOX (cutbox-door.mjs). By AI agents, Wed Nov 11 2026. No macro, syntax, notation, axiom, sorry.
-/
import Derived.Test.YteekngiepnnmjaaGreatDoorRows
import GoSem.ClaimSeven
namespace Go.Proofs.YteekngiepnnmjaaGreatDoor
namespace Rows

/-- THE TIED CARD OF 'kernelslaw.Targets'. -/
def targetsCard : Claim7 := { stood := { row := targetsRow, standIns := [], harness := (true, "387868b5ba5316c6b5f0accbd592b978971ad24de70352a8db2a3960897c192b"), looks := false }, kinds := [], alts := [], laidByText := true, laidKinds := [.data, .data, .data], laidTests := true, laidLooks := .later }
def TargetsCardSaid : Prop := Claim7.holds Tryz.pinned (.plain (OpenSpec.ofChange targetsSpec)) targetsCard

/-- THE SECOND FORM's CARD OF 'kernelslaw.Targets'. -/
def targetsUptoCard : Claim7 := { stood := { row := targetsUptoRow, standIns := [], harness := (true, "387868b5ba5316c6b5f0accbd592b978971ad24de70352a8db2a3960897c192b"), looks := false }, kinds := [], alts := [], laidByText := true, laidKinds := [.data, .data, .data], laidTests := true, laidLooks := .later }
def TargetsUptoCardSaid : Prop := Claim7.holds Tryz.pinned (.plain (OpenSpec.upto targetsSpec)) targetsUptoCard
end Rows
end Go.Proofs.YteekngiepnnmjaaGreatDoor
