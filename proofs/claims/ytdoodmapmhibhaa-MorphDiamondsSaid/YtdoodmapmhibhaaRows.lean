/-
  No cell of these rows narrows 'for every input' (looked for: loops, veiled, ifaces, maps, wideKeys, modest, calm, conditions, laid).
  DERIVED. THE GIVEN ROWS OF THIS SEAT. 11 by the template 'for every input the law returns true; each argument reads behind the call as it read before'; 0 by the template 'total and deterministic' (their statements: YtdoodmapmhibhaaTotals.lean).
  GIVEN WITH THE SEED: the statements are not yours to turn. If you find one false, say at which input.
  Laid BY PROGRAM, IN A SANDBOX (cutbox-rows.mjs): the forced cells as the released guide's own fill.sh prints them over the translation a1b5b6a8e08bbbf2… (all of the seat's roots in one cut). By AI agents, Wed Nov 11 2026. No macro, syntax, notation, axiom, sorry.
-/
import Derived.Test.YtdoodmapmhibhaaChecked
import GoSem.Claim
import GoSem.ClaimJoined
import GoSem.ClaimMapViews
import Derived.JoinedTies
import Derived.KernelRfl
namespace Go.Proofs.Ytdoodmapmhibhaa
/- THE CELL 'sum', in the pinned program and in every row, IS THE sha256 OF THE DUMP (.gsa) THAT YtdoodmapmhibhaaProg.lean LOADS. Nothing in Lean hashes anything: it is a label: what it is worth is what the hold of that sum in a sandbox is worth. -/
noncomputable def Try.pinned : Pinned := { name := "ytdoodmapmhibhaa", sum := "a1b5b6a8e08bbbf2b9d08961f76968d457bd6b7abd1a4aa2e8655b4b287a53be", checked := Try.checked }
namespace Rows
def none {H : Type} : Left H := { results := [], args := [] }

/-- 'additivelaw20.MorphDilates': WHATEVER THE INPUT: true; the input reads as it did. -/
def morphDilatesSpec : ChangeSpec := { name := "morphDilates", fn := fun _ => fun
  | [d1, d2] => { results := [.lit (.bool true)], args := [d1, d2] }
  | _ => none }
def morphDilatesRow : OpenClaim := { program := "ytdoodmapmhibhaa", sum := "a1b5b6a8e08bbbf2b9d08961f76968d457bd6b7abd1a4aa2e8655b4b287a53be", func := "additive/additivelaw20.MorphDilates", spec := "morphDilates", unfollowed := true, recurses := true, apart := false }
def MorphDilatesSaid : Prop := morphDilatesRow.holds Try.pinned (OpenSpec.ofChange morphDilatesSpec)

/-- ITS FALSE NEIGHBOUR: 'it returns false'. Refute it at one input. -/
def morphDilatesWrong : ChangeSpec := { name := "morphDilates", fn := fun _ => fun
  | [d1, d2] => { results := [.lit (.bool false)], args := [d1, d2] }
  | _ => none }
def MorphDilatesWrongFalsely : Prop := morphDilatesRow.holds Try.pinned (OpenSpec.ofChange morphDilatesWrong)

/-- 'additivelaw20.MorphErodes': WHATEVER THE INPUT: true; the input reads as it did. -/
def morphErodesSpec : ChangeSpec := { name := "morphErodes", fn := fun _ => fun
  | [d1, d2] => { results := [.lit (.bool true)], args := [d1, d2] }
  | _ => none }
def morphErodesRow : OpenClaim := { program := "ytdoodmapmhibhaa", sum := "a1b5b6a8e08bbbf2b9d08961f76968d457bd6b7abd1a4aa2e8655b4b287a53be", func := "additive/additivelaw20.MorphErodes", spec := "morphErodes", unfollowed := true, recurses := true, apart := false }
def MorphErodesSaid : Prop := morphErodesRow.holds Try.pinned (OpenSpec.ofChange morphErodesSpec)

/-- ITS FALSE NEIGHBOUR: 'it returns false'. Refute it at one input. -/
def morphErodesWrong : ChangeSpec := { name := "morphErodes", fn := fun _ => fun
  | [d1, d2] => { results := [.lit (.bool false)], args := [d1, d2] }
  | _ => none }
def MorphErodesWrongFalsely : Prop := morphErodesRow.holds Try.pinned (OpenSpec.ofChange morphErodesWrong)

/-- 'additivelaw20.MorphCells': WHATEVER THE INPUT: true; the input reads as it did. -/
def morphCellsSpec : ChangeSpec := { name := "morphCells", fn := fun _ => fun
  | [d] => { results := [.lit (.bool true)], args := [d] }
  | _ => none }
def morphCellsRow : OpenClaim := { program := "ytdoodmapmhibhaa", sum := "a1b5b6a8e08bbbf2b9d08961f76968d457bd6b7abd1a4aa2e8655b4b287a53be", func := "additive/additivelaw20.MorphCells", spec := "morphCells", unfollowed := true, recurses := true, apart := false }
def MorphCellsSaid : Prop := morphCellsRow.holds Try.pinned (OpenSpec.ofChange morphCellsSpec)

/-- ITS FALSE NEIGHBOUR: 'it returns false'. Refute it at one input. -/
def morphCellsWrong : ChangeSpec := { name := "morphCells", fn := fun _ => fun
  | [d] => { results := [.lit (.bool false)], args := [d] }
  | _ => none }
def MorphCellsWrongFalsely : Prop := morphCellsRow.holds Try.pinned (OpenSpec.ofChange morphCellsWrong)

/-- 'additivelaw20.MorphAdjoint': WHATEVER THE INPUT: true; the input reads as it did. -/
def morphAdjointSpec : ChangeSpec := { name := "morphAdjoint", fn := fun _ => fun
  | [d] => { results := [.lit (.bool true)], args := [d] }
  | _ => none }
def morphAdjointRow : OpenClaim := { program := "ytdoodmapmhibhaa", sum := "a1b5b6a8e08bbbf2b9d08961f76968d457bd6b7abd1a4aa2e8655b4b287a53be", func := "additive/additivelaw20.MorphAdjoint", spec := "morphAdjoint", unfollowed := true, recurses := true, apart := false }
def MorphAdjointSaid : Prop := morphAdjointRow.holds Try.pinned (OpenSpec.ofChange morphAdjointSpec)

/-- ITS FALSE NEIGHBOUR: 'it returns false'. Refute it at one input. -/
def morphAdjointWrong : ChangeSpec := { name := "morphAdjoint", fn := fun _ => fun
  | [d] => { results := [.lit (.bool false)], args := [d] }
  | _ => none }
def MorphAdjointWrongFalsely : Prop := morphAdjointRow.holds Try.pinned (OpenSpec.ofChange morphAdjointWrong)

/-- 'additivelaw20.MorphOpens': WHATEVER THE INPUT: true; the input reads as it did. -/
def morphOpensSpec : ChangeSpec := { name := "morphOpens", fn := fun _ => fun
  | [d1, d2] => { results := [.lit (.bool true)], args := [d1, d2] }
  | _ => none }
def morphOpensRow : OpenClaim := { program := "ytdoodmapmhibhaa", sum := "a1b5b6a8e08bbbf2b9d08961f76968d457bd6b7abd1a4aa2e8655b4b287a53be", func := "additive/additivelaw20.MorphOpens", spec := "morphOpens", unfollowed := true, recurses := true, apart := false }
def MorphOpensSaid : Prop := morphOpensRow.holds Try.pinned (OpenSpec.ofChange morphOpensSpec)

/-- ITS FALSE NEIGHBOUR: 'it returns false'. Refute it at one input. -/
def morphOpensWrong : ChangeSpec := { name := "morphOpens", fn := fun _ => fun
  | [d1, d2] => { results := [.lit (.bool false)], args := [d1, d2] }
  | _ => none }
def MorphOpensWrongFalsely : Prop := morphOpensRow.holds Try.pinned (OpenSpec.ofChange morphOpensWrong)

/-- 'additivelaw20.MorphSteps': WHATEVER THE INPUT: true; the input reads as it did. -/
def morphStepsSpec : ChangeSpec := { name := "morphSteps", fn := fun _ => fun
  | [d1, d2, d3] => { results := [.lit (.bool true)], args := [d1, d2, d3] }
  | _ => none }
def morphStepsRow : OpenClaim := { program := "ytdoodmapmhibhaa", sum := "a1b5b6a8e08bbbf2b9d08961f76968d457bd6b7abd1a4aa2e8655b4b287a53be", func := "additive/additivelaw20.MorphSteps", spec := "morphSteps", unfollowed := true, recurses := true, apart := false }
def MorphStepsSaid : Prop := morphStepsRow.holds Try.pinned (OpenSpec.ofChange morphStepsSpec)

/-- ITS FALSE NEIGHBOUR: 'it returns false'. Refute it at one input. -/
def morphStepsWrong : ChangeSpec := { name := "morphSteps", fn := fun _ => fun
  | [d1, d2, d3] => { results := [.lit (.bool false)], args := [d1, d2, d3] }
  | _ => none }
def MorphStepsWrongFalsely : Prop := morphStepsRow.holds Try.pinned (OpenSpec.ofChange morphStepsWrong)

/-- 'additivelaw20.MorphUnions': WHATEVER THE INPUT: true; the input reads as it did. -/
def morphUnionsSpec : ChangeSpec := { name := "morphUnions", fn := fun _ => fun
  | [d] => { results := [.lit (.bool true)], args := [d] }
  | _ => none }
def morphUnionsRow : OpenClaim := { program := "ytdoodmapmhibhaa", sum := "a1b5b6a8e08bbbf2b9d08961f76968d457bd6b7abd1a4aa2e8655b4b287a53be", func := "additive/additivelaw20.MorphUnions", spec := "morphUnions", unfollowed := true, recurses := true, apart := false }
def MorphUnionsSaid : Prop := morphUnionsRow.holds Try.pinned (OpenSpec.ofChange morphUnionsSpec)

/-- ITS FALSE NEIGHBOUR: 'it returns false'. Refute it at one input. -/
def morphUnionsWrong : ChangeSpec := { name := "morphUnions", fn := fun _ => fun
  | [d] => { results := [.lit (.bool false)], args := [d] }
  | _ => none }
def MorphUnionsWrongFalsely : Prop := morphUnionsRow.holds Try.pinned (OpenSpec.ofChange morphUnionsWrong)

/-- 'additivelaw20.MorphCrosses': WHATEVER THE INPUT: true; the input reads as it did. -/
def morphCrossesSpec : ChangeSpec := { name := "morphCrosses", fn := fun _ => fun
  | [d1, d2] => { results := [.lit (.bool true)], args := [d1, d2] }
  | _ => none }
def morphCrossesRow : OpenClaim := { program := "ytdoodmapmhibhaa", sum := "a1b5b6a8e08bbbf2b9d08961f76968d457bd6b7abd1a4aa2e8655b4b287a53be", func := "additive/additivelaw20.MorphCrosses", spec := "morphCrosses", unfollowed := true, recurses := true, apart := false }
def MorphCrossesSaid : Prop := morphCrossesRow.holds Try.pinned (OpenSpec.ofChange morphCrossesSpec)

/-- ITS FALSE NEIGHBOUR: 'it returns false'. Refute it at one input. -/
def morphCrossesWrong : ChangeSpec := { name := "morphCrosses", fn := fun _ => fun
  | [d1, d2] => { results := [.lit (.bool false)], args := [d1, d2] }
  | _ => none }
def MorphCrossesWrongFalsely : Prop := morphCrossesRow.holds Try.pinned (OpenSpec.ofChange morphCrossesWrong)

/-- 'additivelaw20.MorphDiamonds': WHATEVER THE INPUT: true; the input reads as it did. -/
def morphDiamondsSpec : ChangeSpec := { name := "morphDiamonds", fn := fun _ => fun
  | [d] => { results := [.lit (.bool true)], args := [d] }
  | _ => none }
def morphDiamondsRow : OpenClaim := { program := "ytdoodmapmhibhaa", sum := "a1b5b6a8e08bbbf2b9d08961f76968d457bd6b7abd1a4aa2e8655b4b287a53be", func := "additive/additivelaw20.MorphDiamonds", spec := "morphDiamonds", unfollowed := true, recurses := true, apart := false }
def MorphDiamondsSaid : Prop := morphDiamondsRow.holds Try.pinned (OpenSpec.ofChange morphDiamondsSpec)

/-- ITS FALSE NEIGHBOUR: 'it returns false'. Refute it at one input. -/
def morphDiamondsWrong : ChangeSpec := { name := "morphDiamonds", fn := fun _ => fun
  | [d] => { results := [.lit (.bool false)], args := [d] }
  | _ => none }
def MorphDiamondsWrongFalsely : Prop := morphDiamondsRow.holds Try.pinned (OpenSpec.ofChange morphDiamondsWrong)

/-- 'additivelaw20.MorphCrossAdjoint': WHATEVER THE INPUT: true; the input reads as it did. -/
def morphCrossAdjointSpec : ChangeSpec := { name := "morphCrossAdjoint", fn := fun _ => fun
  | [d] => { results := [.lit (.bool true)], args := [d] }
  | _ => none }
def morphCrossAdjointRow : OpenClaim := { program := "ytdoodmapmhibhaa", sum := "a1b5b6a8e08bbbf2b9d08961f76968d457bd6b7abd1a4aa2e8655b4b287a53be", func := "additive/additivelaw20.MorphCrossAdjoint", spec := "morphCrossAdjoint", unfollowed := true, recurses := true, apart := false }
def MorphCrossAdjointSaid : Prop := morphCrossAdjointRow.holds Try.pinned (OpenSpec.ofChange morphCrossAdjointSpec)

/-- ITS FALSE NEIGHBOUR: 'it returns false'. Refute it at one input. -/
def morphCrossAdjointWrong : ChangeSpec := { name := "morphCrossAdjoint", fn := fun _ => fun
  | [d] => { results := [.lit (.bool false)], args := [d] }
  | _ => none }
def MorphCrossAdjointWrongFalsely : Prop := morphCrossAdjointRow.holds Try.pinned (OpenSpec.ofChange morphCrossAdjointWrong)

/-- 'additivelaw20.MorphNested': WHATEVER THE INPUT: true; the input reads as it did. -/
def morphNestedSpec : ChangeSpec := { name := "morphNested", fn := fun _ => fun
  | [d1, d2] => { results := [.lit (.bool true)], args := [d1, d2] }
  | _ => none }
def morphNestedRow : OpenClaim := { program := "ytdoodmapmhibhaa", sum := "a1b5b6a8e08bbbf2b9d08961f76968d457bd6b7abd1a4aa2e8655b4b287a53be", func := "additive/additivelaw20.MorphNested", spec := "morphNested", unfollowed := true, recurses := true, apart := false }
def MorphNestedSaid : Prop := morphNestedRow.holds Try.pinned (OpenSpec.ofChange morphNestedSpec)

/-- ITS FALSE NEIGHBOUR: 'it returns false'. Refute it at one input. -/
def morphNestedWrong : ChangeSpec := { name := "morphNested", fn := fun _ => fun
  | [d1, d2] => { results := [.lit (.bool false)], args := [d1, d2] }
  | _ => none }
def MorphNestedWrongFalsely : Prop := morphNestedRow.holds Try.pinned (OpenSpec.ofChange morphNestedWrong)

/- THE SECOND FORM. 'bulk': how many values and letters a reading holds, each counted each time it is reached (what is shared counts as often as it is met; a slice's spare places count too). A statement '..UptoSaid' is the law's where the arguments, and the package variables that the reading takes, are together of bulk at most 1048576: NARROWER than '..Said'. Prove '..Said' where nothing that the law and all that it calls make is longer than what came in: it says more and counts as full. Else prove '..UptoSaid'. A law counts once. -/
mutual
def uptoBulk {H : Type} : DataW H → Nat
  | .lit (.string bytes) => bytes.length + 1
  | .lit _ => 1
  | .nil => 1
  | .ptr d => uptoBulk d + 1
  | .slice elems spare => uptoBulkAll elems + uptoBulkAll spare + 1
  | .agg parts => uptoBulkAll parts + 1
  | .iface _ d => uptoBulk d + 1
  | .map entries => uptoBulkEntries entries + 1
  | .held _ => 1
def uptoBulkAll {H : Type} : List (DataW H) → Nat
  | [] => 0
  | d :: r => uptoBulk d + uptoBulkAll r
def uptoBulkEntries {H : Type} : List (Lit × DataW H) → Nat
  | [] => 0
  | x :: r => uptoBulkEntry x + uptoBulkEntries r
def uptoBulkEntry {H : Type} : Lit × DataW H → Nat
  | (.string bytes, d) => bytes.length + uptoBulk d + 1
  | (_, d) => uptoBulk d + 1
 end
def uptoSmall : (H : Type) → List (DataW H) → Bool := fun _ ds => decide (uptoBulkAll ds ≤ 1048576)
def OpenSpec.upto (s : _root_.Go.ChangeSpec) : _root_.Go.OpenSpec := { _root_.Go.OpenSpec.ofChange s with cond := some uptoSmall }

/-- 'additivelaw20.MorphDilates', WHERE WHAT IT READS IS OF BULK AT MOST 1048576: true; the input reads as it did. -/
def morphDilatesUptoRow : OpenClaim := { program := "ytdoodmapmhibhaa", sum := "a1b5b6a8e08bbbf2b9d08961f76968d457bd6b7abd1a4aa2e8655b4b287a53be", func := "additive/additivelaw20.MorphDilates", spec := "morphDilates", unfollowed := true, recurses := true, apart := false, narrowed := true }
def MorphDilatesUptoSaid : Prop := morphDilatesUptoRow.holds Try.pinned (OpenSpec.upto morphDilatesSpec)

/-- 'additivelaw20.MorphErodes', WHERE WHAT IT READS IS OF BULK AT MOST 1048576: true; the input reads as it did. -/
def morphErodesUptoRow : OpenClaim := { program := "ytdoodmapmhibhaa", sum := "a1b5b6a8e08bbbf2b9d08961f76968d457bd6b7abd1a4aa2e8655b4b287a53be", func := "additive/additivelaw20.MorphErodes", spec := "morphErodes", unfollowed := true, recurses := true, apart := false, narrowed := true }
def MorphErodesUptoSaid : Prop := morphErodesUptoRow.holds Try.pinned (OpenSpec.upto morphErodesSpec)

/-- 'additivelaw20.MorphCells', WHERE WHAT IT READS IS OF BULK AT MOST 1048576: true; the input reads as it did. -/
def morphCellsUptoRow : OpenClaim := { program := "ytdoodmapmhibhaa", sum := "a1b5b6a8e08bbbf2b9d08961f76968d457bd6b7abd1a4aa2e8655b4b287a53be", func := "additive/additivelaw20.MorphCells", spec := "morphCells", unfollowed := true, recurses := true, apart := false, narrowed := true }
def MorphCellsUptoSaid : Prop := morphCellsUptoRow.holds Try.pinned (OpenSpec.upto morphCellsSpec)

/-- 'additivelaw20.MorphAdjoint', WHERE WHAT IT READS IS OF BULK AT MOST 1048576: true; the input reads as it did. -/
def morphAdjointUptoRow : OpenClaim := { program := "ytdoodmapmhibhaa", sum := "a1b5b6a8e08bbbf2b9d08961f76968d457bd6b7abd1a4aa2e8655b4b287a53be", func := "additive/additivelaw20.MorphAdjoint", spec := "morphAdjoint", unfollowed := true, recurses := true, apart := false, narrowed := true }
def MorphAdjointUptoSaid : Prop := morphAdjointUptoRow.holds Try.pinned (OpenSpec.upto morphAdjointSpec)

/-- 'additivelaw20.MorphOpens', WHERE WHAT IT READS IS OF BULK AT MOST 1048576: true; the input reads as it did. -/
def morphOpensUptoRow : OpenClaim := { program := "ytdoodmapmhibhaa", sum := "a1b5b6a8e08bbbf2b9d08961f76968d457bd6b7abd1a4aa2e8655b4b287a53be", func := "additive/additivelaw20.MorphOpens", spec := "morphOpens", unfollowed := true, recurses := true, apart := false, narrowed := true }
def MorphOpensUptoSaid : Prop := morphOpensUptoRow.holds Try.pinned (OpenSpec.upto morphOpensSpec)

/-- 'additivelaw20.MorphSteps', WHERE WHAT IT READS IS OF BULK AT MOST 1048576: true; the input reads as it did. -/
def morphStepsUptoRow : OpenClaim := { program := "ytdoodmapmhibhaa", sum := "a1b5b6a8e08bbbf2b9d08961f76968d457bd6b7abd1a4aa2e8655b4b287a53be", func := "additive/additivelaw20.MorphSteps", spec := "morphSteps", unfollowed := true, recurses := true, apart := false, narrowed := true }
def MorphStepsUptoSaid : Prop := morphStepsUptoRow.holds Try.pinned (OpenSpec.upto morphStepsSpec)

/-- 'additivelaw20.MorphUnions', WHERE WHAT IT READS IS OF BULK AT MOST 1048576: true; the input reads as it did. -/
def morphUnionsUptoRow : OpenClaim := { program := "ytdoodmapmhibhaa", sum := "a1b5b6a8e08bbbf2b9d08961f76968d457bd6b7abd1a4aa2e8655b4b287a53be", func := "additive/additivelaw20.MorphUnions", spec := "morphUnions", unfollowed := true, recurses := true, apart := false, narrowed := true }
def MorphUnionsUptoSaid : Prop := morphUnionsUptoRow.holds Try.pinned (OpenSpec.upto morphUnionsSpec)

/-- 'additivelaw20.MorphCrosses', WHERE WHAT IT READS IS OF BULK AT MOST 1048576: true; the input reads as it did. -/
def morphCrossesUptoRow : OpenClaim := { program := "ytdoodmapmhibhaa", sum := "a1b5b6a8e08bbbf2b9d08961f76968d457bd6b7abd1a4aa2e8655b4b287a53be", func := "additive/additivelaw20.MorphCrosses", spec := "morphCrosses", unfollowed := true, recurses := true, apart := false, narrowed := true }
def MorphCrossesUptoSaid : Prop := morphCrossesUptoRow.holds Try.pinned (OpenSpec.upto morphCrossesSpec)

/-- 'additivelaw20.MorphDiamonds', WHERE WHAT IT READS IS OF BULK AT MOST 1048576: true; the input reads as it did. -/
def morphDiamondsUptoRow : OpenClaim := { program := "ytdoodmapmhibhaa", sum := "a1b5b6a8e08bbbf2b9d08961f76968d457bd6b7abd1a4aa2e8655b4b287a53be", func := "additive/additivelaw20.MorphDiamonds", spec := "morphDiamonds", unfollowed := true, recurses := true, apart := false, narrowed := true }
def MorphDiamondsUptoSaid : Prop := morphDiamondsUptoRow.holds Try.pinned (OpenSpec.upto morphDiamondsSpec)

/-- 'additivelaw20.MorphCrossAdjoint', WHERE WHAT IT READS IS OF BULK AT MOST 1048576: true; the input reads as it did. -/
def morphCrossAdjointUptoRow : OpenClaim := { program := "ytdoodmapmhibhaa", sum := "a1b5b6a8e08bbbf2b9d08961f76968d457bd6b7abd1a4aa2e8655b4b287a53be", func := "additive/additivelaw20.MorphCrossAdjoint", spec := "morphCrossAdjoint", unfollowed := true, recurses := true, apart := false, narrowed := true }
def MorphCrossAdjointUptoSaid : Prop := morphCrossAdjointUptoRow.holds Try.pinned (OpenSpec.upto morphCrossAdjointSpec)

/-- 'additivelaw20.MorphNested', WHERE WHAT IT READS IS OF BULK AT MOST 1048576: true; the input reads as it did. -/
def morphNestedUptoRow : OpenClaim := { program := "ytdoodmapmhibhaa", sum := "a1b5b6a8e08bbbf2b9d08961f76968d457bd6b7abd1a4aa2e8655b4b287a53be", func := "additive/additivelaw20.MorphNested", spec := "morphNested", unfollowed := true, recurses := true, apart := false, narrowed := true }
def MorphNestedUptoSaid : Prop := morphNestedUptoRow.holds Try.pinned (OpenSpec.upto morphNestedSpec)

end Rows
end Go.Proofs.Ytdoodmapmhibhaa
