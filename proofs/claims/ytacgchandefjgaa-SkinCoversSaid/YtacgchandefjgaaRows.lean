/-
  No cell of these rows narrows 'for every input' (looked for: loops, veiled, ifaces, maps, wideKeys, modest, calm, conditions, laid).
  DERIVED. THE GIVEN ROWS OF THIS SEAT. 7 by the template 'for every input the law returns true; each argument reads behind the call as it read before'; 0 by the template 'total and deterministic' (their statements: YtacgchandefjgaaTotals.lean).
  GIVEN WITH THE SEED: the statements are not yours to turn. If you find one false, say at which input.
  Laid BY PROGRAM, IN A SANDBOX (cutbox-rows.mjs): the forced cells as the released guide's own fill.sh prints them over the translation 1890c6603097bf8a… (all of the seat's roots in one cut). By AI agents, Wed Nov 11 2026. No macro, syntax, notation, axiom, sorry.
-/
import Derived.Test.YtacgchandefjgaaChecked
import GoSem.Claim
import GoSem.ClaimJoined
import GoSem.ClaimMapViews
import Derived.JoinedTies
import Derived.KernelRfl
namespace Go.Proofs.Ytacgchandefjgaa
/- THE CELL 'sum', in the pinned program and in every row, IS THE sha256 OF THE DUMP (.gsa) THAT YtacgchandefjgaaProg.lean LOADS. Nothing in Lean hashes anything: it is a label: what it is worth is what the hold of that sum in a sandbox is worth. -/
noncomputable def Try.pinned : Pinned := { name := "ytacgchandefjgaa", sum := "1890c6603097bf8a9bb3a8206b791ce96b12580f021bc90fd936d67754a23a51", checked := Try.checked }
namespace Rows
def none {H : Type} : Left H := { results := [], args := [] }

/-- 'additivelaw20.MorphDilates': WHATEVER THE INPUT: true; the input reads as it did. -/
def morphDilatesSpec : ChangeSpec := { name := "morphDilates", fn := fun _ => fun
  | [d1, d2] => { results := [.lit (.bool true)], args := [d1, d2] }
  | _ => none }
def morphDilatesRow : OpenClaim := { program := "ytacgchandefjgaa", sum := "1890c6603097bf8a9bb3a8206b791ce96b12580f021bc90fd936d67754a23a51", func := "additive/additivelaw20.MorphDilates", spec := "morphDilates", unfollowed := true, recurses := true, apart := false }
def MorphDilatesSaid : Prop := morphDilatesRow.holds Try.pinned (OpenSpec.ofChange morphDilatesSpec)

/-- ITS FALSE NEIGHBOUR: 'it returns false'. Refute it at one input. -/
def morphDilatesWrong : ChangeSpec := { name := "morphDilates", fn := fun _ => fun
  | [d1, d2] => { results := [.lit (.bool false)], args := [d1, d2] }
  | _ => none }
def MorphDilatesWrongFalsely : Prop := morphDilatesRow.holds Try.pinned (OpenSpec.ofChange morphDilatesWrong)

/-- 'additivelaw20.MorphErodes': WHATEVER THE INPUT: true; the input reads as it did. -/
def morphErodesSpec : ChangeSpec := { name := "morphErodes", fn := fun _ => fun
  | [d1, d2] => { results := [.lit (.bool true)], args := [d1, d2] }
  | _ => none }
def morphErodesRow : OpenClaim := { program := "ytacgchandefjgaa", sum := "1890c6603097bf8a9bb3a8206b791ce96b12580f021bc90fd936d67754a23a51", func := "additive/additivelaw20.MorphErodes", spec := "morphErodes", unfollowed := true, recurses := true, apart := false }
def MorphErodesSaid : Prop := morphErodesRow.holds Try.pinned (OpenSpec.ofChange morphErodesSpec)

/-- ITS FALSE NEIGHBOUR: 'it returns false'. Refute it at one input. -/
def morphErodesWrong : ChangeSpec := { name := "morphErodes", fn := fun _ => fun
  | [d1, d2] => { results := [.lit (.bool false)], args := [d1, d2] }
  | _ => none }
def MorphErodesWrongFalsely : Prop := morphErodesRow.holds Try.pinned (OpenSpec.ofChange morphErodesWrong)

/-- 'additivelaw20.MorphCrosses': WHATEVER THE INPUT: true; the input reads as it did. -/
def morphCrossesSpec : ChangeSpec := { name := "morphCrosses", fn := fun _ => fun
  | [d1, d2] => { results := [.lit (.bool true)], args := [d1, d2] }
  | _ => none }
def morphCrossesRow : OpenClaim := { program := "ytacgchandefjgaa", sum := "1890c6603097bf8a9bb3a8206b791ce96b12580f021bc90fd936d67754a23a51", func := "additive/additivelaw20.MorphCrosses", spec := "morphCrosses", unfollowed := true, recurses := true, apart := false }
def MorphCrossesSaid : Prop := morphCrossesRow.holds Try.pinned (OpenSpec.ofChange morphCrossesSpec)

/-- ITS FALSE NEIGHBOUR: 'it returns false'. Refute it at one input. -/
def morphCrossesWrong : ChangeSpec := { name := "morphCrosses", fn := fun _ => fun
  | [d1, d2] => { results := [.lit (.bool false)], args := [d1, d2] }
  | _ => none }
def MorphCrossesWrongFalsely : Prop := morphCrossesRow.holds Try.pinned (OpenSpec.ofChange morphCrossesWrong)

/-- 'additivelaw31.SupportOverhangs': WHATEVER THE INPUT: true; the input reads as it did. -/
def supportOverhangsSpec : ChangeSpec := { name := "supportOverhangs", fn := fun _ => fun
  | [d1, d2, d3] => { results := [.lit (.bool true)], args := [d1, d2, d3] }
  | _ => none }
def supportOverhangsRow : OpenClaim := { program := "ytacgchandefjgaa", sum := "1890c6603097bf8a9bb3a8206b791ce96b12580f021bc90fd936d67754a23a51", func := "additive/additivelaw31.SupportOverhangs", spec := "supportOverhangs", unfollowed := true, recurses := true, apart := false }
def SupportOverhangsSaid : Prop := supportOverhangsRow.holds Try.pinned (OpenSpec.ofChange supportOverhangsSpec)

/-- ITS FALSE NEIGHBOUR: 'it returns false'. Refute it at one input. -/
def supportOverhangsWrong : ChangeSpec := { name := "supportOverhangs", fn := fun _ => fun
  | [d1, d2, d3] => { results := [.lit (.bool false)], args := [d1, d2, d3] }
  | _ => none }
def SupportOverhangsWrongFalsely : Prop := supportOverhangsRow.holds Try.pinned (OpenSpec.ofChange supportOverhangsWrong)

/-- 'additivelaw31.SupportResults': WHATEVER THE INPUT: true; the input reads as it did. -/
def supportResultsSpec : ChangeSpec := { name := "supportResults", fn := fun _ => fun
  | [d1, d2, d3] => { results := [.lit (.bool true)], args := [d1, d2, d3] }
  | _ => none }
def supportResultsRow : OpenClaim := { program := "ytacgchandefjgaa", sum := "1890c6603097bf8a9bb3a8206b791ce96b12580f021bc90fd936d67754a23a51", func := "additive/additivelaw31.SupportResults", spec := "supportResults", unfollowed := true, recurses := true, apart := false }
def SupportResultsSaid : Prop := supportResultsRow.holds Try.pinned (OpenSpec.ofChange supportResultsSpec)

/-- ITS FALSE NEIGHBOUR: 'it returns false'. Refute it at one input. -/
def supportResultsWrong : ChangeSpec := { name := "supportResults", fn := fun _ => fun
  | [d1, d2, d3] => { results := [.lit (.bool false)], args := [d1, d2, d3] }
  | _ => none }
def SupportResultsWrongFalsely : Prop := supportResultsRow.holds Try.pinned (OpenSpec.ofChange supportResultsWrong)

/-- 'additivelaw31.SupportCells': WHATEVER THE INPUT: true; the input reads as it did. -/
def supportCellsSpec : ChangeSpec := { name := "supportCells", fn := fun _ => fun
  | [d1, d2, d3] => { results := [.lit (.bool true)], args := [d1, d2, d3] }
  | _ => none }
def supportCellsRow : OpenClaim := { program := "ytacgchandefjgaa", sum := "1890c6603097bf8a9bb3a8206b791ce96b12580f021bc90fd936d67754a23a51", func := "additive/additivelaw31.SupportCells", spec := "supportCells", unfollowed := true, recurses := true, apart := false }
def SupportCellsSaid : Prop := supportCellsRow.holds Try.pinned (OpenSpec.ofChange supportCellsSpec)

/-- ITS FALSE NEIGHBOUR: 'it returns false'. Refute it at one input. -/
def supportCellsWrong : ChangeSpec := { name := "supportCells", fn := fun _ => fun
  | [d1, d2, d3] => { results := [.lit (.bool false)], args := [d1, d2, d3] }
  | _ => none }
def SupportCellsWrongFalsely : Prop := supportCellsRow.holds Try.pinned (OpenSpec.ofChange supportCellsWrong)

/-- 'additivelaw28.SkinCovers': WHATEVER THE INPUT: true; the input reads as it did. -/
def skinCoversSpec : ChangeSpec := { name := "skinCovers", fn := fun _ => fun
  | [d] => { results := [.lit (.bool true)], args := [d] }
  | _ => none }
def skinCoversRow : OpenClaim := { program := "ytacgchandefjgaa", sum := "1890c6603097bf8a9bb3a8206b791ce96b12580f021bc90fd936d67754a23a51", func := "additive/additivelaw28.SkinCovers", spec := "skinCovers", unfollowed := true, recurses := true, apart := false }
def SkinCoversSaid : Prop := skinCoversRow.holds Try.pinned (OpenSpec.ofChange skinCoversSpec)

/-- ITS FALSE NEIGHBOUR: 'it returns false'. Refute it at one input. -/
def skinCoversWrong : ChangeSpec := { name := "skinCovers", fn := fun _ => fun
  | [d] => { results := [.lit (.bool false)], args := [d] }
  | _ => none }
def SkinCoversWrongFalsely : Prop := skinCoversRow.holds Try.pinned (OpenSpec.ofChange skinCoversWrong)

/- THE SECOND FORM. 'bulk': how many values and letters a reading holds, each counted each time it is reached (what is shared counts as often as it is met; a slice's spare places count too). A statement '..UptoSaid' is the law's where the arguments, and the package variables that the reading takes, are together of bulk at most 1048576: NARROWER than '..Said'. Prove '..Said' where nothing that the law and all that it calls make is longer than what came in: it says more and counts as full. Else prove '..UptoSaid'. A law counts once. -/
mutual
def uptoBulk {H : Type} : DataW H → Nat
  | .lit (.string bytes) => bytes.length + 1
  | .lit _ => 1
  | .nil => 1
  | .ptr d => uptoBulk d + 1
  | .slice elems spare => uptoBulkAll elems + uptoBulkAll spare + 1
  | .agg parts => uptoBulkAll parts + 1
  | .iface _ d => uptoBulk d + 1
  | .map entries => uptoBulkEntries entries + 1
  | .held _ => 1
def uptoBulkAll {H : Type} : List (DataW H) → Nat
  | [] => 0
  | d :: r => uptoBulk d + uptoBulkAll r
def uptoBulkEntries {H : Type} : List (Lit × DataW H) → Nat
  | [] => 0
  | x :: r => uptoBulkEntry x + uptoBulkEntries r
def uptoBulkEntry {H : Type} : Lit × DataW H → Nat
  | (.string bytes, d) => bytes.length + uptoBulk d + 1
  | (_, d) => uptoBulk d + 1
 end
def uptoSmall : (H : Type) → List (DataW H) → Bool := fun _ ds => decide (uptoBulkAll ds ≤ 1048576)
def OpenSpec.upto (s : _root_.Go.ChangeSpec) : _root_.Go.OpenSpec := { _root_.Go.OpenSpec.ofChange s with cond := some uptoSmall }

/-- 'additivelaw20.MorphDilates', WHERE WHAT IT READS IS OF BULK AT MOST 1048576: true; the input reads as it did. -/
def morphDilatesUptoRow : OpenClaim := { program := "ytacgchandefjgaa", sum := "1890c6603097bf8a9bb3a8206b791ce96b12580f021bc90fd936d67754a23a51", func := "additive/additivelaw20.MorphDilates", spec := "morphDilates", unfollowed := true, recurses := true, apart := false, narrowed := true }
def MorphDilatesUptoSaid : Prop := morphDilatesUptoRow.holds Try.pinned (OpenSpec.upto morphDilatesSpec)

/-- 'additivelaw20.MorphErodes', WHERE WHAT IT READS IS OF BULK AT MOST 1048576: true; the input reads as it did. -/
def morphErodesUptoRow : OpenClaim := { program := "ytacgchandefjgaa", sum := "1890c6603097bf8a9bb3a8206b791ce96b12580f021bc90fd936d67754a23a51", func := "additive/additivelaw20.MorphErodes", spec := "morphErodes", unfollowed := true, recurses := true, apart := false, narrowed := true }
def MorphErodesUptoSaid : Prop := morphErodesUptoRow.holds Try.pinned (OpenSpec.upto morphErodesSpec)

/-- 'additivelaw20.MorphCrosses', WHERE WHAT IT READS IS OF BULK AT MOST 1048576: true; the input reads as it did. -/
def morphCrossesUptoRow : OpenClaim := { program := "ytacgchandefjgaa", sum := "1890c6603097bf8a9bb3a8206b791ce96b12580f021bc90fd936d67754a23a51", func := "additive/additivelaw20.MorphCrosses", spec := "morphCrosses", unfollowed := true, recurses := true, apart := false, narrowed := true }
def MorphCrossesUptoSaid : Prop := morphCrossesUptoRow.holds Try.pinned (OpenSpec.upto morphCrossesSpec)

/-- 'additivelaw31.SupportOverhangs', WHERE WHAT IT READS IS OF BULK AT MOST 1048576: true; the input reads as it did. -/
def supportOverhangsUptoRow : OpenClaim := { program := "ytacgchandefjgaa", sum := "1890c6603097bf8a9bb3a8206b791ce96b12580f021bc90fd936d67754a23a51", func := "additive/additivelaw31.SupportOverhangs", spec := "supportOverhangs", unfollowed := true, recurses := true, apart := false, narrowed := true }
def SupportOverhangsUptoSaid : Prop := supportOverhangsUptoRow.holds Try.pinned (OpenSpec.upto supportOverhangsSpec)

/-- 'additivelaw31.SupportResults', WHERE WHAT IT READS IS OF BULK AT MOST 1048576: true; the input reads as it did. -/
def supportResultsUptoRow : OpenClaim := { program := "ytacgchandefjgaa", sum := "1890c6603097bf8a9bb3a8206b791ce96b12580f021bc90fd936d67754a23a51", func := "additive/additivelaw31.SupportResults", spec := "supportResults", unfollowed := true, recurses := true, apart := false, narrowed := true }
def SupportResultsUptoSaid : Prop := supportResultsUptoRow.holds Try.pinned (OpenSpec.upto supportResultsSpec)

/-- 'additivelaw31.SupportCells', WHERE WHAT IT READS IS OF BULK AT MOST 1048576: true; the input reads as it did. -/
def supportCellsUptoRow : OpenClaim := { program := "ytacgchandefjgaa", sum := "1890c6603097bf8a9bb3a8206b791ce96b12580f021bc90fd936d67754a23a51", func := "additive/additivelaw31.SupportCells", spec := "supportCells", unfollowed := true, recurses := true, apart := false, narrowed := true }
def SupportCellsUptoSaid : Prop := supportCellsUptoRow.holds Try.pinned (OpenSpec.upto supportCellsSpec)

/-- 'additivelaw28.SkinCovers', WHERE WHAT IT READS IS OF BULK AT MOST 1048576: true; the input reads as it did. -/
def skinCoversUptoRow : OpenClaim := { program := "ytacgchandefjgaa", sum := "1890c6603097bf8a9bb3a8206b791ce96b12580f021bc90fd936d67754a23a51", func := "additive/additivelaw28.SkinCovers", spec := "skinCovers", unfollowed := true, recurses := true, apart := false, narrowed := true }
def SkinCoversUptoSaid : Prop := skinCoversUptoRow.holds Try.pinned (OpenSpec.upto skinCoversSpec)

end Rows
end Go.Proofs.Ytacgchandefjgaa
