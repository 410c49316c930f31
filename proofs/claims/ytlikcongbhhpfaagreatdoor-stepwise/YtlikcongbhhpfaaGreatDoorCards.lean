/-
  DERIVED. GIVEN WITH THE SEED: THE CARDS: each row of YtlikcongbhhpfaaGreatDoorRows.lean that lists a variable, with what it lists TIED to the program's text (the seventh form; the later family's looks); each row that meets fmt, with fmt's text TOLD by the authors' own Lean function (tested against real Go, not proved from fmt's source: count such statements apart). THE CARD IS WHAT COUNTS. Prove the row's statement (the work); the ties are given (YtlikcongbhhpfaaGreatDoorTie.lean); close each card by the builder's one call (the guide's Derived/Test/ToyasCard.lean, 'card_holds'). Laid BY PROGRAM, IN A SANDBOX (cutbox-door.mjs). By AI agents, Wed Nov 11 2026. No macro, syntax, notation, axiom, sorry.
-/
import Derived.Test.YtlikcongbhhpfaaGreatDoorRows
import GoSem.ClaimSeven
namespace Go.Proofs.YtlikcongbhhpfaaGreatDoor
namespace Rows

/-- THE TIED CARD OF 'kernelskeep.Stepwise'. -/
def stepwiseCard : Claim7 := { stood := { row := stepwiseRow, standIns := [], harness := (true, "193a35a20d229cf048e3d65f128cfcd6d13d6a77c1aeaf9e65e6893d3d25018c"), looks := false }, kinds := [], alts := [], laidByText := true, laidKinds := [.data, .data, .data], laidTests := true, laidLooks := .later }
def StepwiseCardSaid : Prop := Claim7.holds Tryz.pinned (.plain (OpenSpec.ofChange stepwiseSpec)) stepwiseCard

/-- THE SECOND FORM's CARD OF 'kernelskeep.Stepwise'. -/
def stepwiseUptoCard : Claim7 := { stood := { row := stepwiseUptoRow, standIns := [], harness := (true, "193a35a20d229cf048e3d65f128cfcd6d13d6a77c1aeaf9e65e6893d3d25018c"), looks := false }, kinds := [], alts := [], laidByText := true, laidKinds := [.data, .data, .data], laidTests := true, laidLooks := .later }
def StepwiseUptoCardSaid : Prop := Claim7.holds Tryz.pinned (.plain (OpenSpec.upto stepwiseSpec)) stepwiseUptoCard
end Rows
end Go.Proofs.YtlikcongbhhpfaaGreatDoor
