/-
  No cell of these rows narrows 'for every input' (looked for: loops, veiled, ifaces, maps, wideKeys, modest, calm, conditions, laid).
  DERIVED. THE GIVEN ROWS OF THIS SEAT. 4 by the template 'for every input the law returns true; each argument reads behind the call as it read before'; 0 by the template 'total and deterministic' (their statements: YtkmebkbpfmoeaaaGreatTotals.lean).
  GIVEN WITH THE SEED: the statements are not yours to turn. If you find one false, say at which input.
  Laid BY PROGRAM, IN A SANDBOX (cutbox-rows.mjs): the forced cells as the released guide's own fill.sh prints them over the translation 20b3bfe2de7103f5… (all of the seat's roots in one cut). By AI agents, Wed Nov 11 2026. No macro, syntax, notation, axiom, sorry.
-/
import Derived.Test.YtkmebkbpfmoeaaaGreatChecked
import GoSem.Claim
import GoSem.ClaimJoined
import GoSem.ClaimMapViews
import Derived.JoinedTies
import Derived.KernelRfl
namespace Go.Proofs.YtkmebkbpfmoeaaaGreat
/- THE CELL 'sum', in the pinned program and in every row, IS THE sha256 OF THE DUMP (.gsa) THAT YtkmebkbpfmoeaaaGreatProg.lean LOADS. Nothing in Lean hashes anything: it is a label: what it is worth is what the hold of that sum in a sandbox is worth. -/
noncomputable def Tryz.pinned : Pinned := { name := "ytkmebkbpfmoeaaagreat", sum := "20b3bfe2de7103f5da32c44208e39e0e1782f31ae07eb99ced5bf77d608bde5f", checked := Tryz.checked }
namespace Rows
def none {H : Type} : Left H := { results := [], args := [] }

/-- 'kernelskeep.Turns': WHATEVER THE INPUT: true; the input reads as it did. -/
def turnsSpec : ChangeSpec := { name := "turns", fn := fun _ => fun
  | [d1, d2] => { results := [.lit (.bool true)], args := [d1, d2] }
  | _ => none }
def turnsRow : OpenClaim := { program := "ytkmebkbpfmoeaaagreat", sum := "20b3bfe2de7103f5da32c44208e39e0e1782f31ae07eb99ced5bf77d608bde5f", func := "kernels/kernelskeep.Turns", spec := "turns", apart := false }
def TurnsSaid : Prop := turnsRow.holds Tryz.pinned (OpenSpec.ofChange turnsSpec)

/-- ITS FALSE NEIGHBOUR: 'it returns false'. Refute it at one input. -/
def turnsWrong : ChangeSpec := { name := "turns", fn := fun _ => fun
  | [d1, d2] => { results := [.lit (.bool false)], args := [d1, d2] }
  | _ => none }
def TurnsWrongFalsely : Prop := turnsRow.holds Tryz.pinned (OpenSpec.ofChange turnsWrong)

/-- 'kernelskeep.Stronger': WHATEVER THE INPUT: true; the input reads as it did. -/
def strongerSpec : ChangeSpec := { name := "stronger", fn := fun _ => fun
  | [d] => { results := [.lit (.bool true)], args := [d] }
  | _ => none }
def strongerRow : OpenClaim := { program := "ytkmebkbpfmoeaaagreat", sum := "20b3bfe2de7103f5da32c44208e39e0e1782f31ae07eb99ced5bf77d608bde5f", func := "kernels/kernelskeep.Stronger", spec := "stronger", apart := false }
def StrongerSaid : Prop := strongerRow.holds Tryz.pinned (OpenSpec.ofChange strongerSpec)

/-- ITS FALSE NEIGHBOUR: 'it returns false'. Refute it at one input. -/
def strongerWrong : ChangeSpec := { name := "stronger", fn := fun _ => fun
  | [d] => { results := [.lit (.bool false)], args := [d] }
  | _ => none }
def StrongerWrongFalsely : Prop := strongerRow.holds Tryz.pinned (OpenSpec.ofChange strongerWrong)

/-- 'kernelskeep.Fenced': WHATEVER THE INPUT: true; the input reads as it did. -/
def fencedSpec : ChangeSpec := { name := "fenced", fn := fun _ => fun
  | [d1, d2] => { results := [.lit (.bool true)], args := [d1, d2] }
  | _ => none }
def fencedRow : OpenClaim := { program := "ytkmebkbpfmoeaaagreat", sum := "20b3bfe2de7103f5da32c44208e39e0e1782f31ae07eb99ced5bf77d608bde5f", func := "kernels/kernelskeep.Fenced", spec := "fenced", apart := false }
def FencedSaid : Prop := fencedRow.holds Tryz.pinned (OpenSpec.ofChange fencedSpec)

/-- ITS FALSE NEIGHBOUR: 'it returns false'. Refute it at one input. -/
def fencedWrong : ChangeSpec := { name := "fenced", fn := fun _ => fun
  | [d1, d2] => { results := [.lit (.bool false)], args := [d1, d2] }
  | _ => none }
def FencedWrongFalsely : Prop := fencedRow.holds Tryz.pinned (OpenSpec.ofChange fencedWrong)

/-- 'kernelskeep.Renamed': WHATEVER THE INPUT: true; the input reads as it did. -/
def renamedSpec : ChangeSpec := { name := "renamed", fn := fun _ => fun
  | [d] => { results := [.lit (.bool true)], args := [d] }
  | _ => none }
def renamedRow : OpenClaim := { program := "ytkmebkbpfmoeaaagreat", sum := "20b3bfe2de7103f5da32c44208e39e0e1782f31ae07eb99ced5bf77d608bde5f", func := "kernels/kernelskeep.Renamed", spec := "renamed", apart := false }
def RenamedSaid : Prop := renamedRow.holds Tryz.pinned (OpenSpec.ofChange renamedSpec)

/-- ITS FALSE NEIGHBOUR: 'it returns false'. Refute it at one input. -/
def renamedWrong : ChangeSpec := { name := "renamed", fn := fun _ => fun
  | [d] => { results := [.lit (.bool false)], args := [d] }
  | _ => none }
def RenamedWrongFalsely : Prop := renamedRow.holds Tryz.pinned (OpenSpec.ofChange renamedWrong)

/- THE SECOND FORM. 'bulk': how many values and letters a reading holds, each counted each time it is reached (what is shared counts as often as it is met; a slice's spare places count too). A statement '..UptoSaid' is the law's where the arguments, and the package variables that the reading takes, are together of bulk at most 1048576: NARROWER than '..Said'. Prove '..Said' where nothing that the law and all that it calls make is longer than what came in: it says more and counts as full. Else prove '..UptoSaid'. A law counts once. -/
mutual
def uptoBulk {H : Type} : DataW H → Nat
  | .lit (.string bytes) => bytes.length + 1
  | .lit _ => 1
  | .nil => 1
  | .ptr d => uptoBulk d + 1
  | .slice elems spare => uptoBulkAll elems + uptoBulkAll spare + 1
  | .agg parts => uptoBulkAll parts + 1
  | .iface _ d => uptoBulk d + 1
  | .map entries => uptoBulkEntries entries + 1
  | .held _ => 1
def uptoBulkAll {H : Type} : List (DataW H) → Nat
  | [] => 0
  | d :: r => uptoBulk d + uptoBulkAll r
def uptoBulkEntries {H : Type} : List (Lit × DataW H) → Nat
  | [] => 0
  | x :: r => uptoBulkEntry x + uptoBulkEntries r
def uptoBulkEntry {H : Type} : Lit × DataW H → Nat
  | (.string bytes, d) => bytes.length + uptoBulk d + 1
  | (_, d) => uptoBulk d + 1
 end
def uptoSmall : (H : Type) → List (DataW H) → Bool := fun _ ds => decide (uptoBulkAll ds ≤ 1048576)
def OpenSpec.upto (s : _root_.Go.ChangeSpec) : _root_.Go.OpenSpec := { _root_.Go.OpenSpec.ofChange s with cond := some uptoSmall }

/-- 'kernelskeep.Turns', WHERE WHAT IT READS IS OF BULK AT MOST 1048576: true; the input reads as it did. -/
def turnsUptoRow : OpenClaim := { program := "ytkmebkbpfmoeaaagreat", sum := "20b3bfe2de7103f5da32c44208e39e0e1782f31ae07eb99ced5bf77d608bde5f", func := "kernels/kernelskeep.Turns", spec := "turns", apart := false, narrowed := true }
def TurnsUptoSaid : Prop := turnsUptoRow.holds Tryz.pinned (OpenSpec.upto turnsSpec)

/-- 'kernelskeep.Stronger', WHERE WHAT IT READS IS OF BULK AT MOST 1048576: true; the input reads as it did. -/
def strongerUptoRow : OpenClaim := { program := "ytkmebkbpfmoeaaagreat", sum := "20b3bfe2de7103f5da32c44208e39e0e1782f31ae07eb99ced5bf77d608bde5f", func := "kernels/kernelskeep.Stronger", spec := "stronger", apart := false, narrowed := true }
def StrongerUptoSaid : Prop := strongerUptoRow.holds Tryz.pinned (OpenSpec.upto strongerSpec)

/-- 'kernelskeep.Fenced', WHERE WHAT IT READS IS OF BULK AT MOST 1048576: true; the input reads as it did. -/
def fencedUptoRow : OpenClaim := { program := "ytkmebkbpfmoeaaagreat", sum := "20b3bfe2de7103f5da32c44208e39e0e1782f31ae07eb99ced5bf77d608bde5f", func := "kernels/kernelskeep.Fenced", spec := "fenced", apart := false, narrowed := true }
def FencedUptoSaid : Prop := fencedUptoRow.holds Tryz.pinned (OpenSpec.upto fencedSpec)

/-- 'kernelskeep.Renamed', WHERE WHAT IT READS IS OF BULK AT MOST 1048576: true; the input reads as it did. -/
def renamedUptoRow : OpenClaim := { program := "ytkmebkbpfmoeaaagreat", sum := "20b3bfe2de7103f5da32c44208e39e0e1782f31ae07eb99ced5bf77d608bde5f", func := "kernels/kernelskeep.Renamed", spec := "renamed", apart := false, narrowed := true }
def RenamedUptoSaid : Prop := renamedUptoRow.holds Tryz.pinned (OpenSpec.upto renamedSpec)

end Rows
end Go.Proofs.YtkmebkbpfmoeaaaGreat
