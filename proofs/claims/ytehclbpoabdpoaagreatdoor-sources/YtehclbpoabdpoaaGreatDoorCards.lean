/-
  DERIVED. GIVEN WITH THE SEED: THE CARDS: each row of YtehclbpoabdpoaaGreatDoorRows.lean that lists a variable, with what it lists TIED to the program's text (the seventh form; the later family's looks); each row that meets fmt, with fmt's text TOLD by the authors' own Lean function (tested against real Go, not proved from fmt's source: count such statements apart). THE CARD IS WHAT COUNTS. Prove the row's statement (the work); the ties are given (YtehclbpoabdpoaaGreatDoorTie.lean); close each card by the builder's one call (the guide's Derived/Test/ToyasCard.lean, 'card_holds'). Laid BY PROGRAM, IN A SANDBOX (cutbox-door.mjs). By AI agents, Wed Nov 11 2026. No macro, syntax, notation, axiom, sorry.
-/
import Derived.Test.YtehclbpoabdpoaaGreatDoorRows
import GoSem.ClaimSeven
namespace Go.Proofs.YtehclbpoabdpoaaGreatDoor
namespace Rows

/-- THE TIED CARD OF 'kernelslaw.Sources'. -/
def sourcesCard : Claim7 := { stood := { row := sourcesRow, standIns := [], harness := (true, "ed8b66a49bb5cddaab82ae2fc159f8d7723a514643457ea0571ed15da568f6eb"), looks := false }, kinds := [], alts := [], laidByText := true, laidKinds := [.data, .data, .data], laidTests := true, laidLooks := .later }
def SourcesCardSaid : Prop := Claim7.holds Tryz.pinned (.plain (OpenSpec.ofChange sourcesSpec)) sourcesCard

/-- THE SECOND FORM's CARD OF 'kernelslaw.Sources'. -/
def sourcesUptoCard : Claim7 := { stood := { row := sourcesUptoRow, standIns := [], harness := (true, "ed8b66a49bb5cddaab82ae2fc159f8d7723a514643457ea0571ed15da568f6eb"), looks := false }, kinds := [], alts := [], laidByText := true, laidKinds := [.data, .data, .data], laidTests := true, laidLooks := .later }
def SourcesUptoCardSaid : Prop := Claim7.holds Tryz.pinned (.plain (OpenSpec.upto sourcesSpec)) sourcesUptoCard
end Rows
end Go.Proofs.YtehclbpoabdpoaaGreatDoor
