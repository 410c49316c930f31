/-
  DERIVED. GIVEN WITH THE SEED: THE CARDS: each row of YtgceflcbckjjiaaGreatDoorRows.lean that lists a variable, with what it lists TIED to the program's text (the seventh form; the later family's looks); each row that meets fmt, with fmt's text TOLD by the authors' own Lean function (tested against real Go, not proved from fmt's source: count such statements apart). THE CARD IS WHAT COUNTS. Prove the row's statement (the work); the ties are given (YtgceflcbckjjiaaGreatDoorTie.lean); close each card by the builder's one call (the guide's Derived/Test/ToyasCard.lean, 'card_holds'). Laid BY PROGRAM, IN A SANDBOX (cutbox-door.mjs). By AI agents, Wed Nov 11 2026. No macro, syntax, notation, axiom, sorry.
-/
import Derived.Test.YtgceflcbckjjiaaGreatDoorRows
import GoSem.ClaimSeven
namespace Go.Proofs.YtgceflcbckjjiaaGreatDoor
namespace Rows

/-- THE TIED CARD OF 'kernelskeep.Counted'. -/
def countedCard : Claim7 := { stood := { row := countedRow, standIns := [], harness := (true, "71b7150a034154cff8bc0e2768773b59aefdd08733831fcb4d61f6785f37ca36"), looks := false }, kinds := [], alts := [], laidByText := true, laidKinds := [.data, .data, .data], laidTests := true, laidLooks := .later }
def CountedCardSaid : Prop := Claim7.holds Tryz.pinned (.plain (OpenSpec.ofChange countedSpec)) countedCard

/-- THE TIED CARD OF 'kernelskeep.Known'. -/
def knownCard : Claim7 := { stood := { row := knownRow, standIns := [], harness := (true, "71b7150a034154cff8bc0e2768773b59aefdd08733831fcb4d61f6785f37ca36"), looks := false }, kinds := [], alts := [], laidByText := true, laidKinds := [.data, .data, .data], laidTests := true, laidLooks := .later }
def KnownCardSaid : Prop := Claim7.holds Tryz.pinned (.plain (OpenSpec.ofChange knownSpec)) knownCard

/-- THE TIED CARD OF 'kernelskeep.Wrong'. -/
def wrongCard : Claim7 := { stood := { row := wrongRow, standIns := [], harness := (true, "71b7150a034154cff8bc0e2768773b59aefdd08733831fcb4d61f6785f37ca36"), looks := false }, kinds := [], alts := [], laidByText := true, laidKinds := [.data, .data, .data], laidTests := true, laidLooks := .later }
def WrongCardSaid : Prop := Claim7.holds Tryz.pinned (.plain (OpenSpec.ofChange wrongSpec)) wrongCard

/-- THE TIED CARD OF 'kernelskeep.Left'. -/
def leftCard : Claim7 := { stood := { row := leftRow, standIns := [], harness := (true, "71b7150a034154cff8bc0e2768773b59aefdd08733831fcb4d61f6785f37ca36"), looks := false }, kinds := [], alts := [], laidByText := true, laidKinds := [.data, .data, .data], laidTests := true, laidLooks := .later }
def LeftCardSaid : Prop := Claim7.holds Tryz.pinned (.plain (OpenSpec.ofChange leftSpec)) leftCard

/-- THE SECOND FORM's CARD OF 'kernelskeep.Counted'. -/
def countedUptoCard : Claim7 := { stood := { row := countedUptoRow, standIns := [], harness := (true, "71b7150a034154cff8bc0e2768773b59aefdd08733831fcb4d61f6785f37ca36"), looks := false }, kinds := [], alts := [], laidByText := true, laidKinds := [.data, .data, .data], laidTests := true, laidLooks := .later }
def CountedUptoCardSaid : Prop := Claim7.holds Tryz.pinned (.plain (OpenSpec.upto countedSpec)) countedUptoCard

/-- THE SECOND FORM's CARD OF 'kernelskeep.Known'. -/
def knownUptoCard : Claim7 := { stood := { row := knownUptoRow, standIns := [], harness := (true, "71b7150a034154cff8bc0e2768773b59aefdd08733831fcb4d61f6785f37ca36"), looks := false }, kinds := [], alts := [], laidByText := true, laidKinds := [.data, .data, .data], laidTests := true, laidLooks := .later }
def KnownUptoCardSaid : Prop := Claim7.holds Tryz.pinned (.plain (OpenSpec.upto knownSpec)) knownUptoCard

/-- THE SECOND FORM's CARD OF 'kernelskeep.Wrong'. -/
def wrongUptoCard : Claim7 := { stood := { row := wrongUptoRow, standIns := [], harness := (true, "71b7150a034154cff8bc0e2768773b59aefdd08733831fcb4d61f6785f37ca36"), looks := false }, kinds := [], alts := [], laidByText := true, laidKinds := [.data, .data, .data], laidTests := true, laidLooks := .later }
def WrongUptoCardSaid : Prop := Claim7.holds Tryz.pinned (.plain (OpenSpec.upto wrongSpec)) wrongUptoCard

/-- THE SECOND FORM's CARD OF 'kernelskeep.Left'. -/
def leftUptoCard : Claim7 := { stood := { row := leftUptoRow, standIns := [], harness := (true, "71b7150a034154cff8bc0e2768773b59aefdd08733831fcb4d61f6785f37ca36"), looks := false }, kinds := [], alts := [], laidByText := true, laidKinds := [.data, .data, .data], laidTests := true, laidLooks := .later }
def LeftUptoCardSaid : Prop := Claim7.holds Tryz.pinned (.plain (OpenSpec.upto leftSpec)) leftUptoCard
end Rows
end Go.Proofs.YtgceflcbckjjiaaGreatDoor
