/-
  No cell of these rows narrows 'for every input' (looked for: loops, veiled, ifaces, maps, wideKeys, modest, calm, conditions, laid).
  DERIVED. THE GIVEN ROWS OF THIS SEAT. 5 by the template 'for every input the law returns true; each argument reads behind the call as it read before'; 0 by the template 'total and deterministic' (their statements: YtklagccjkbajiaaTotals.lean).
  GIVEN WITH THE SEED: the statements are not yours to turn. If you find one false, say at which input.
  Laid BY PROGRAM, IN A SANDBOX (cutbox-rows.mjs): the forced cells as the released guide's own fill.sh prints them over the translation 399eb021db9b80f8… (all of the seat's roots in one cut). By AI agents, Wed Nov 11 2026. No macro, syntax, notation, axiom, sorry.
-/
import Derived.Test.YtklagccjkbajiaaChecked
import GoSem.Claim
import GoSem.ClaimJoined
import GoSem.ClaimMapViews
import Derived.JoinedTies
import Derived.KernelRfl
namespace Go.Proofs.Ytklagccjkbajiaa
/- THE CELL 'sum', in the pinned program and in every row, IS THE sha256 OF THE DUMP (.gsa) THAT YtklagccjkbajiaaProg.lean LOADS. Nothing in Lean hashes anything: it is a label: what it is worth is what the hold of that sum in a sandbox is worth. -/
noncomputable def Try.pinned : Pinned := { name := "ytklagccjkbajiaa", sum := "399eb021db9b80f87d01121dbc635c2abadcd8b4e08e1715b1c2329655712a19", checked := Try.checked }
namespace Rows
def none {H : Type} : Left H := { results := [], args := [] }

/-- 'additivelaw06.RunsNorms': WHATEVER THE INPUT: true; the input reads as it did. -/
def runsNormsSpec : ChangeSpec := { name := "runsNorms", fn := fun _ => fun
  | [d1, d2] => { results := [.lit (.bool true)], args := [d1, d2] }
  | _ => none }
def runsNormsRow : OpenClaim := { program := "ytklagccjkbajiaa", sum := "399eb021db9b80f87d01121dbc635c2abadcd8b4e08e1715b1c2329655712a19", func := "additive/additivelaw06.RunsNorms", spec := "runsNorms", unfollowed := true, recurses := true, apart := false }
def RunsNormsSaid : Prop := runsNormsRow.holds Try.pinned (OpenSpec.ofChange runsNormsSpec)

/-- ITS FALSE NEIGHBOUR: 'it returns false'. Refute it at one input. -/
def runsNormsWrong : ChangeSpec := { name := "runsNorms", fn := fun _ => fun
  | [d1, d2] => { results := [.lit (.bool false)], args := [d1, d2] }
  | _ => none }
def RunsNormsWrongFalsely : Prop := runsNormsRow.holds Try.pinned (OpenSpec.ofChange runsNormsWrong)

/-- 'additivelaw06.RunsChooses': WHATEVER THE INPUT: true; the input reads as it did. -/
def runsChoosesSpec : ChangeSpec := { name := "runsChooses", fn := fun _ => fun
  | [d1, d2] => { results := [.lit (.bool true)], args := [d1, d2] }
  | _ => none }
def runsChoosesRow : OpenClaim := { program := "ytklagccjkbajiaa", sum := "399eb021db9b80f87d01121dbc635c2abadcd8b4e08e1715b1c2329655712a19", func := "additive/additivelaw06.RunsChooses", spec := "runsChooses", unfollowed := true, recurses := true, apart := false }
def RunsChoosesSaid : Prop := runsChoosesRow.holds Try.pinned (OpenSpec.ofChange runsChoosesSpec)

/-- ITS FALSE NEIGHBOUR: 'it returns false'. Refute it at one input. -/
def runsChoosesWrong : ChangeSpec := { name := "runsChooses", fn := fun _ => fun
  | [d1, d2] => { results := [.lit (.bool false)], args := [d1, d2] }
  | _ => none }
def RunsChoosesWrongFalsely : Prop := runsChoosesRow.holds Try.pinned (OpenSpec.ofChange runsChoosesWrong)

/-- 'additivelaw06.RunsMoves': WHATEVER THE INPUT: true; the input reads as it did. -/
def runsMovesSpec : ChangeSpec := { name := "runsMoves", fn := fun _ => fun
  | [d1, d2] => { results := [.lit (.bool true)], args := [d1, d2] }
  | _ => none }
def runsMovesRow : OpenClaim := { program := "ytklagccjkbajiaa", sum := "399eb021db9b80f87d01121dbc635c2abadcd8b4e08e1715b1c2329655712a19", func := "additive/additivelaw06.RunsMoves", spec := "runsMoves", unfollowed := true, recurses := true, apart := false }
def RunsMovesSaid : Prop := runsMovesRow.holds Try.pinned (OpenSpec.ofChange runsMovesSpec)

/-- ITS FALSE NEIGHBOUR: 'it returns false'. Refute it at one input. -/
def runsMovesWrong : ChangeSpec := { name := "runsMoves", fn := fun _ => fun
  | [d1, d2] => { results := [.lit (.bool false)], args := [d1, d2] }
  | _ => none }
def RunsMovesWrongFalsely : Prop := runsMovesRow.holds Try.pinned (OpenSpec.ofChange runsMovesWrong)

/-- 'additivelaw06.RunsSets': WHATEVER THE INPUT: true; the input reads as it did. -/
def runsSetsSpec : ChangeSpec := { name := "runsSets", fn := fun _ => fun
  | [d1, d2, d3, d4] => { results := [.lit (.bool true)], args := [d1, d2, d3, d4] }
  | _ => none }
def runsSetsRow : OpenClaim := { program := "ytklagccjkbajiaa", sum := "399eb021db9b80f87d01121dbc635c2abadcd8b4e08e1715b1c2329655712a19", func := "additive/additivelaw06.RunsSets", spec := "runsSets", unfollowed := true, recurses := true, apart := false }
def RunsSetsSaid : Prop := runsSetsRow.holds Try.pinned (OpenSpec.ofChange runsSetsSpec)

/-- ITS FALSE NEIGHBOUR: 'it returns false'. Refute it at one input. -/
def runsSetsWrong : ChangeSpec := { name := "runsSets", fn := fun _ => fun
  | [d1, d2, d3, d4] => { results := [.lit (.bool false)], args := [d1, d2, d3, d4] }
  | _ => none }
def RunsSetsWrongFalsely : Prop := runsSetsRow.holds Try.pinned (OpenSpec.ofChange runsSetsWrong)

/-- 'additivelaw06.RunsAdjoint': WHATEVER THE INPUT: true; the input reads as it did. -/
def runsAdjointSpec : ChangeSpec := { name := "runsAdjoint", fn := fun _ => fun
  | [d1, d2, d3] => { results := [.lit (.bool true)], args := [d1, d2, d3] }
  | _ => none }
def runsAdjointRow : OpenClaim := { program := "ytklagccjkbajiaa", sum := "399eb021db9b80f87d01121dbc635c2abadcd8b4e08e1715b1c2329655712a19", func := "additive/additivelaw06.RunsAdjoint", spec := "runsAdjoint", unfollowed := true, recurses := true, apart := false }
def RunsAdjointSaid : Prop := runsAdjointRow.holds Try.pinned (OpenSpec.ofChange runsAdjointSpec)

/-- ITS FALSE NEIGHBOUR: 'it returns false'. Refute it at one input. -/
def runsAdjointWrong : ChangeSpec := { name := "runsAdjoint", fn := fun _ => fun
  | [d1, d2, d3] => { results := [.lit (.bool false)], args := [d1, d2, d3] }
  | _ => none }
def RunsAdjointWrongFalsely : Prop := runsAdjointRow.holds Try.pinned (OpenSpec.ofChange runsAdjointWrong)

/- THE SECOND FORM. 'bulk': how many values and letters a reading holds, each counted each time it is reached (what is shared counts as often as it is met; a slice's spare places count too). A statement '..UptoSaid' is the law's where the arguments, and the package variables that the reading takes, are together of bulk at most 1048576: NARROWER than '..Said'. Prove '..Said' where nothing that the law and all that it calls make is longer than what came in: it says more and counts as full. Else prove '..UptoSaid'. A law counts once. -/
mutual
def uptoBulk {H : Type} : DataW H → Nat
  | .lit (.string bytes) => bytes.length + 1
  | .lit _ => 1
  | .nil => 1
  | .ptr d => uptoBulk d + 1
  | .slice elems spare => uptoBulkAll elems + uptoBulkAll spare + 1
  | .agg parts => uptoBulkAll parts + 1
  | .iface _ d => uptoBulk d + 1
  | .map entries => uptoBulkEntries entries + 1
  | .held _ => 1
def uptoBulkAll {H : Type} : List (DataW H) → Nat
  | [] => 0
  | d :: r => uptoBulk d + uptoBulkAll r
def uptoBulkEntries {H : Type} : List (Lit × DataW H) → Nat
  | [] => 0
  | x :: r => uptoBulkEntry x + uptoBulkEntries r
def uptoBulkEntry {H : Type} : Lit × DataW H → Nat
  | (.string bytes, d) => bytes.length + uptoBulk d + 1
  | (_, d) => uptoBulk d + 1
 end
def uptoSmall : (H : Type) → List (DataW H) → Bool := fun _ ds => decide (uptoBulkAll ds ≤ 1048576)
def OpenSpec.upto (s : _root_.Go.ChangeSpec) : _root_.Go.OpenSpec := { _root_.Go.OpenSpec.ofChange s with cond := some uptoSmall }

/-- 'additivelaw06.RunsNorms', WHERE WHAT IT READS IS OF BULK AT MOST 1048576: true; the input reads as it did. -/
def runsNormsUptoRow : OpenClaim := { program := "ytklagccjkbajiaa", sum := "399eb021db9b80f87d01121dbc635c2abadcd8b4e08e1715b1c2329655712a19", func := "additive/additivelaw06.RunsNorms", spec := "runsNorms", unfollowed := true, recurses := true, apart := false, narrowed := true }
def RunsNormsUptoSaid : Prop := runsNormsUptoRow.holds Try.pinned (OpenSpec.upto runsNormsSpec)

/-- 'additivelaw06.RunsChooses', WHERE WHAT IT READS IS OF BULK AT MOST 1048576: true; the input reads as it did. -/
def runsChoosesUptoRow : OpenClaim := { program := "ytklagccjkbajiaa", sum := "399eb021db9b80f87d01121dbc635c2abadcd8b4e08e1715b1c2329655712a19", func := "additive/additivelaw06.RunsChooses", spec := "runsChooses", unfollowed := true, recurses := true, apart := false, narrowed := true }
def RunsChoosesUptoSaid : Prop := runsChoosesUptoRow.holds Try.pinned (OpenSpec.upto runsChoosesSpec)

/-- 'additivelaw06.RunsMoves', WHERE WHAT IT READS IS OF BULK AT MOST 1048576: true; the input reads as it did. -/
def runsMovesUptoRow : OpenClaim := { program := "ytklagccjkbajiaa", sum := "399eb021db9b80f87d01121dbc635c2abadcd8b4e08e1715b1c2329655712a19", func := "additive/additivelaw06.RunsMoves", spec := "runsMoves", unfollowed := true, recurses := true, apart := false, narrowed := true }
def RunsMovesUptoSaid : Prop := runsMovesUptoRow.holds Try.pinned (OpenSpec.upto runsMovesSpec)

/-- 'additivelaw06.RunsSets', WHERE WHAT IT READS IS OF BULK AT MOST 1048576: true; the input reads as it did. -/
def runsSetsUptoRow : OpenClaim := { program := "ytklagccjkbajiaa", sum := "399eb021db9b80f87d01121dbc635c2abadcd8b4e08e1715b1c2329655712a19", func := "additive/additivelaw06.RunsSets", spec := "runsSets", unfollowed := true, recurses := true, apart := false, narrowed := true }
def RunsSetsUptoSaid : Prop := runsSetsUptoRow.holds Try.pinned (OpenSpec.upto runsSetsSpec)

/-- 'additivelaw06.RunsAdjoint', WHERE WHAT IT READS IS OF BULK AT MOST 1048576: true; the input reads as it did. -/
def runsAdjointUptoRow : OpenClaim := { program := "ytklagccjkbajiaa", sum := "399eb021db9b80f87d01121dbc635c2abadcd8b4e08e1715b1c2329655712a19", func := "additive/additivelaw06.RunsAdjoint", spec := "runsAdjoint", unfollowed := true, recurses := true, apart := false, narrowed := true }
def RunsAdjointUptoSaid : Prop := runsAdjointUptoRow.holds Try.pinned (OpenSpec.upto runsAdjointSpec)

end Rows
end Go.Proofs.Ytklagccjkbajiaa
