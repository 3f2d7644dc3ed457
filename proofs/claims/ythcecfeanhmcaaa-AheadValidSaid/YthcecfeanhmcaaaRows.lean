/-
  No cell of these rows narrows 'for every input' (looked for: loops, veiled, ifaces, maps, wideKeys, modest, calm, conditions, laid).
  DERIVED. THE GIVEN ROWS OF THIS SEAT. 11 by the template 'for every input the law returns true; each argument reads behind the call as it read before'; 0 by the template 'total and deterministic' (their statements: YthcecfeanhmcaaaTotals.lean).
  GIVEN WITH THE SEED: the statements are not yours to turn. If you find one false, say at which input.
  Laid BY PROGRAM, IN A SANDBOX (cutbox-rows.mjs): the forced cells as the released guide's own fill.sh prints them over the translation 80384a6b804ce220… (all of the seat's roots in one cut). By AI agents, Wed Nov 11 2026. No macro, syntax, notation, axiom, sorry.
-/
import Derived.Test.YthcecfeanhmcaaaChecked
import GoSem.Claim
import GoSem.ClaimJoined
import GoSem.ClaimMapViews
import Derived.JoinedTies
import Derived.KernelRfl
namespace Go.Proofs.Ythcecfeanhmcaaa
/- THE CELL 'sum', in the pinned program and in every row, IS THE sha256 OF THE DUMP (.gsa) THAT YthcecfeanhmcaaaProg.lean LOADS. Nothing in Lean hashes anything: it is a label: what it is worth is what the hold of that sum in a sandbox is worth. -/
noncomputable def Try.pinned : Pinned := { name := "ythcecfeanhmcaaa", sum := "80384a6b804ce22060073ce6a4e862ceeb1289fe50de60401e9f2ee5d5241b12", checked := Try.checked }
namespace Rows
def none {H : Type} : Left H := { results := [], args := [] }

/-- 'additivelaw06.RunsNorms': WHATEVER THE INPUT: true; the input reads as it did. -/
def runsNormsSpec : ChangeSpec := { name := "runsNorms", fn := fun _ => fun
  | [d1, d2] => { results := [.lit (.bool true)], args := [d1, d2] }
  | _ => none }
def runsNormsRow : OpenClaim := { program := "ythcecfeanhmcaaa", sum := "80384a6b804ce22060073ce6a4e862ceeb1289fe50de60401e9f2ee5d5241b12", func := "additive/additivelaw06.RunsNorms", spec := "runsNorms", unfollowed := true, recurses := true, apart := false }
def RunsNormsSaid : Prop := runsNormsRow.holds Try.pinned (OpenSpec.ofChange runsNormsSpec)

/-- ITS FALSE NEIGHBOUR: 'it returns false'. Refute it at one input. -/
def runsNormsWrong : ChangeSpec := { name := "runsNorms", fn := fun _ => fun
  | [d1, d2] => { results := [.lit (.bool false)], args := [d1, d2] }
  | _ => none }
def RunsNormsWrongFalsely : Prop := runsNormsRow.holds Try.pinned (OpenSpec.ofChange runsNormsWrong)

/-- 'additivelaw06.RunsChooses': WHATEVER THE INPUT: true; the input reads as it did. -/
def runsChoosesSpec : ChangeSpec := { name := "runsChooses", fn := fun _ => fun
  | [d1, d2] => { results := [.lit (.bool true)], args := [d1, d2] }
  | _ => none }
def runsChoosesRow : OpenClaim := { program := "ythcecfeanhmcaaa", sum := "80384a6b804ce22060073ce6a4e862ceeb1289fe50de60401e9f2ee5d5241b12", func := "additive/additivelaw06.RunsChooses", spec := "runsChooses", unfollowed := true, recurses := true, apart := false }
def RunsChoosesSaid : Prop := runsChoosesRow.holds Try.pinned (OpenSpec.ofChange runsChoosesSpec)

/-- ITS FALSE NEIGHBOUR: 'it returns false'. Refute it at one input. -/
def runsChoosesWrong : ChangeSpec := { name := "runsChooses", fn := fun _ => fun
  | [d1, d2] => { results := [.lit (.bool false)], args := [d1, d2] }
  | _ => none }
def RunsChoosesWrongFalsely : Prop := runsChoosesRow.holds Try.pinned (OpenSpec.ofChange runsChoosesWrong)

/-- 'additivelaw06.RunsMoves': WHATEVER THE INPUT: true; the input reads as it did. -/
def runsMovesSpec : ChangeSpec := { name := "runsMoves", fn := fun _ => fun
  | [d1, d2] => { results := [.lit (.bool true)], args := [d1, d2] }
  | _ => none }
def runsMovesRow : OpenClaim := { program := "ythcecfeanhmcaaa", sum := "80384a6b804ce22060073ce6a4e862ceeb1289fe50de60401e9f2ee5d5241b12", func := "additive/additivelaw06.RunsMoves", spec := "runsMoves", unfollowed := true, recurses := true, apart := false }
def RunsMovesSaid : Prop := runsMovesRow.holds Try.pinned (OpenSpec.ofChange runsMovesSpec)

/-- ITS FALSE NEIGHBOUR: 'it returns false'. Refute it at one input. -/
def runsMovesWrong : ChangeSpec := { name := "runsMoves", fn := fun _ => fun
  | [d1, d2] => { results := [.lit (.bool false)], args := [d1, d2] }
  | _ => none }
def RunsMovesWrongFalsely : Prop := runsMovesRow.holds Try.pinned (OpenSpec.ofChange runsMovesWrong)

/-- 'additivelaw06.RunsSets': WHATEVER THE INPUT: true; the input reads as it did. -/
def runsSetsSpec : ChangeSpec := { name := "runsSets", fn := fun _ => fun
  | [d1, d2, d3, d4] => { results := [.lit (.bool true)], args := [d1, d2, d3, d4] }
  | _ => none }
def runsSetsRow : OpenClaim := { program := "ythcecfeanhmcaaa", sum := "80384a6b804ce22060073ce6a4e862ceeb1289fe50de60401e9f2ee5d5241b12", func := "additive/additivelaw06.RunsSets", spec := "runsSets", unfollowed := true, recurses := true, apart := false }
def RunsSetsSaid : Prop := runsSetsRow.holds Try.pinned (OpenSpec.ofChange runsSetsSpec)

/-- ITS FALSE NEIGHBOUR: 'it returns false'. Refute it at one input. -/
def runsSetsWrong : ChangeSpec := { name := "runsSets", fn := fun _ => fun
  | [d1, d2, d3, d4] => { results := [.lit (.bool false)], args := [d1, d2, d3, d4] }
  | _ => none }
def RunsSetsWrongFalsely : Prop := runsSetsRow.holds Try.pinned (OpenSpec.ofChange runsSetsWrong)

/-- 'additivelaw06.RunsAdjoint': WHATEVER THE INPUT: true; the input reads as it did. -/
def runsAdjointSpec : ChangeSpec := { name := "runsAdjoint", fn := fun _ => fun
  | [d1, d2, d3] => { results := [.lit (.bool true)], args := [d1, d2, d3] }
  | _ => none }
def runsAdjointRow : OpenClaim := { program := "ythcecfeanhmcaaa", sum := "80384a6b804ce22060073ce6a4e862ceeb1289fe50de60401e9f2ee5d5241b12", func := "additive/additivelaw06.RunsAdjoint", spec := "runsAdjoint", unfollowed := true, recurses := true, apart := false }
def RunsAdjointSaid : Prop := runsAdjointRow.holds Try.pinned (OpenSpec.ofChange runsAdjointSpec)

/-- ITS FALSE NEIGHBOUR: 'it returns false'. Refute it at one input. -/
def runsAdjointWrong : ChangeSpec := { name := "runsAdjoint", fn := fun _ => fun
  | [d1, d2, d3] => { results := [.lit (.bool false)], args := [d1, d2, d3] }
  | _ => none }
def RunsAdjointWrongFalsely : Prop := runsAdjointRow.holds Try.pinned (OpenSpec.ofChange runsAdjointWrong)

/-- 'additivelaw44.AheadValid': WHATEVER THE INPUT: true; the input reads as it did. -/
def aheadValidSpec : ChangeSpec := { name := "aheadValid", fn := fun _ => fun
  | [d] => { results := [.lit (.bool true)], args := [d] }
  | _ => none }
def aheadValidRow : OpenClaim := { program := "ythcecfeanhmcaaa", sum := "80384a6b804ce22060073ce6a4e862ceeb1289fe50de60401e9f2ee5d5241b12", func := "additive/additivelaw44.AheadValid", spec := "aheadValid", unfollowed := true, recurses := true, apart := false }
def AheadValidSaid : Prop := aheadValidRow.holds Try.pinned (OpenSpec.ofChange aheadValidSpec)

/-- ITS FALSE NEIGHBOUR: 'it returns false'. Refute it at one input. -/
def aheadValidWrong : ChangeSpec := { name := "aheadValid", fn := fun _ => fun
  | [d] => { results := [.lit (.bool false)], args := [d] }
  | _ => none }
def AheadValidWrongFalsely : Prop := aheadValidRow.holds Try.pinned (OpenSpec.ofChange aheadValidWrong)

/-- 'additivelaw44.AheadFeasible': WHATEVER THE INPUT: true; the input reads as it did. -/
def aheadFeasibleSpec : ChangeSpec := { name := "aheadFeasible", fn := fun _ => fun
  | [d] => { results := [.lit (.bool true)], args := [d] }
  | _ => none }
def aheadFeasibleRow : OpenClaim := { program := "ythcecfeanhmcaaa", sum := "80384a6b804ce22060073ce6a4e862ceeb1289fe50de60401e9f2ee5d5241b12", func := "additive/additivelaw44.AheadFeasible", spec := "aheadFeasible", unfollowed := true, recurses := true, apart := false }
def AheadFeasibleSaid : Prop := aheadFeasibleRow.holds Try.pinned (OpenSpec.ofChange aheadFeasibleSpec)

/-- ITS FALSE NEIGHBOUR: 'it returns false'. Refute it at one input. -/
def aheadFeasibleWrong : ChangeSpec := { name := "aheadFeasible", fn := fun _ => fun
  | [d] => { results := [.lit (.bool false)], args := [d] }
  | _ => none }
def AheadFeasibleWrongFalsely : Prop := aheadFeasibleRow.holds Try.pinned (OpenSpec.ofChange aheadFeasibleWrong)

/-- 'additivelaw44.AheadPlans': WHATEVER THE INPUT: true; the input reads as it did. -/
def aheadPlansSpec : ChangeSpec := { name := "aheadPlans", fn := fun _ => fun
  | [d] => { results := [.lit (.bool true)], args := [d] }
  | _ => none }
def aheadPlansRow : OpenClaim := { program := "ythcecfeanhmcaaa", sum := "80384a6b804ce22060073ce6a4e862ceeb1289fe50de60401e9f2ee5d5241b12", func := "additive/additivelaw44.AheadPlans", spec := "aheadPlans", unfollowed := true, recurses := true, apart := false }
def AheadPlansSaid : Prop := aheadPlansRow.holds Try.pinned (OpenSpec.ofChange aheadPlansSpec)

/-- ITS FALSE NEIGHBOUR: 'it returns false'. Refute it at one input. -/
def aheadPlansWrong : ChangeSpec := { name := "aheadPlans", fn := fun _ => fun
  | [d] => { results := [.lit (.bool false)], args := [d] }
  | _ => none }
def AheadPlansWrongFalsely : Prop := aheadPlansRow.holds Try.pinned (OpenSpec.ofChange aheadPlansWrong)

/-- 'additivelaw44.AheadGreatest': WHATEVER THE INPUT: true; the input reads as it did. -/
def aheadGreatestSpec : ChangeSpec := { name := "aheadGreatest", fn := fun _ => fun
  | [d] => { results := [.lit (.bool true)], args := [d] }
  | _ => none }
def aheadGreatestRow : OpenClaim := { program := "ythcecfeanhmcaaa", sum := "80384a6b804ce22060073ce6a4e862ceeb1289fe50de60401e9f2ee5d5241b12", func := "additive/additivelaw44.AheadGreatest", spec := "aheadGreatest", unfollowed := true, recurses := true, apart := false }
def AheadGreatestSaid : Prop := aheadGreatestRow.holds Try.pinned (OpenSpec.ofChange aheadGreatestSpec)

/-- ITS FALSE NEIGHBOUR: 'it returns false'. Refute it at one input. -/
def aheadGreatestWrong : ChangeSpec := { name := "aheadGreatest", fn := fun _ => fun
  | [d] => { results := [.lit (.bool false)], args := [d] }
  | _ => none }
def AheadGreatestWrongFalsely : Prop := aheadGreatestRow.holds Try.pinned (OpenSpec.ofChange aheadGreatestWrong)

/-- 'additivelaw44.AheadTight': WHATEVER THE INPUT: true; the input reads as it did. -/
def aheadTightSpec : ChangeSpec := { name := "aheadTight", fn := fun _ => fun
  | [d] => { results := [.lit (.bool true)], args := [d] }
  | _ => none }
def aheadTightRow : OpenClaim := { program := "ythcecfeanhmcaaa", sum := "80384a6b804ce22060073ce6a4e862ceeb1289fe50de60401e9f2ee5d5241b12", func := "additive/additivelaw44.AheadTight", spec := "aheadTight", unfollowed := true, recurses := true, apart := false }
def AheadTightSaid : Prop := aheadTightRow.holds Try.pinned (OpenSpec.ofChange aheadTightSpec)

/-- ITS FALSE NEIGHBOUR: 'it returns false'. Refute it at one input. -/
def aheadTightWrong : ChangeSpec := { name := "aheadTight", fn := fun _ => fun
  | [d] => { results := [.lit (.bool false)], args := [d] }
  | _ => none }
def AheadTightWrongFalsely : Prop := aheadTightRow.holds Try.pinned (OpenSpec.ofChange aheadTightWrong)

/-- 'additivelaw44.AheadCaps': WHATEVER THE INPUT: true; the input reads as it did. -/
def aheadCapsSpec : ChangeSpec := { name := "aheadCaps", fn := fun _ => fun
  | [d1, d2, d3] => { results := [.lit (.bool true)], args := [d1, d2, d3] }
  | _ => none }
def aheadCapsRow : OpenClaim := { program := "ythcecfeanhmcaaa", sum := "80384a6b804ce22060073ce6a4e862ceeb1289fe50de60401e9f2ee5d5241b12", func := "additive/additivelaw44.AheadCaps", spec := "aheadCaps", unfollowed := true, recurses := true, apart := false }
def AheadCapsSaid : Prop := aheadCapsRow.holds Try.pinned (OpenSpec.ofChange aheadCapsSpec)

/-- ITS FALSE NEIGHBOUR: 'it returns false'. Refute it at one input. -/
def aheadCapsWrong : ChangeSpec := { name := "aheadCaps", fn := fun _ => fun
  | [d1, d2, d3] => { results := [.lit (.bool false)], args := [d1, d2, d3] }
  | _ => none }
def AheadCapsWrongFalsely : Prop := aheadCapsRow.holds Try.pinned (OpenSpec.ofChange aheadCapsWrong)

/- THE SECOND FORM. 'bulk': how many values and letters a reading holds, each counted each time it is reached (what is shared counts as often as it is met; a slice's spare places count too). A statement '..UptoSaid' is the law's where the arguments, and the package variables that the reading takes, are together of bulk at most 1048576: NARROWER than '..Said'. Prove '..Said' where nothing that the law and all that it calls make is longer than what came in: it says more and counts as full. Else prove '..UptoSaid'. A law counts once. -/
mutual
def uptoBulk {H : Type} : DataW H → Nat
  | .lit (.string bytes) => bytes.length + 1
  | .lit _ => 1
  | .nil => 1
  | .ptr d => uptoBulk d + 1
  | .slice elems spare => uptoBulkAll elems + uptoBulkAll spare + 1
  | .agg parts => uptoBulkAll parts + 1
  | .iface _ d => uptoBulk d + 1
  | .map entries => uptoBulkEntries entries + 1
  | .held _ => 1
def uptoBulkAll {H : Type} : List (DataW H) → Nat
  | [] => 0
  | d :: r => uptoBulk d + uptoBulkAll r
def uptoBulkEntries {H : Type} : List (Lit × DataW H) → Nat
  | [] => 0
  | x :: r => uptoBulkEntry x + uptoBulkEntries r
def uptoBulkEntry {H : Type} : Lit × DataW H → Nat
  | (.string bytes, d) => bytes.length + uptoBulk d + 1
  | (_, d) => uptoBulk d + 1
 end
def uptoSmall : (H : Type) → List (DataW H) → Bool := fun _ ds => decide (uptoBulkAll ds ≤ 1048576)
def OpenSpec.upto (s : _root_.Go.ChangeSpec) : _root_.Go.OpenSpec := { _root_.Go.OpenSpec.ofChange s with cond := some uptoSmall }

/-- 'additivelaw06.RunsNorms', WHERE WHAT IT READS IS OF BULK AT MOST 1048576: true; the input reads as it did. -/
def runsNormsUptoRow : OpenClaim := { program := "ythcecfeanhmcaaa", sum := "80384a6b804ce22060073ce6a4e862ceeb1289fe50de60401e9f2ee5d5241b12", func := "additive/additivelaw06.RunsNorms", spec := "runsNorms", unfollowed := true, recurses := true, apart := false, narrowed := true }
def RunsNormsUptoSaid : Prop := runsNormsUptoRow.holds Try.pinned (OpenSpec.upto runsNormsSpec)

/-- 'additivelaw06.RunsChooses', WHERE WHAT IT READS IS OF BULK AT MOST 1048576: true; the input reads as it did. -/
def runsChoosesUptoRow : OpenClaim := { program := "ythcecfeanhmcaaa", sum := "80384a6b804ce22060073ce6a4e862ceeb1289fe50de60401e9f2ee5d5241b12", func := "additive/additivelaw06.RunsChooses", spec := "runsChooses", unfollowed := true, recurses := true, apart := false, narrowed := true }
def RunsChoosesUptoSaid : Prop := runsChoosesUptoRow.holds Try.pinned (OpenSpec.upto runsChoosesSpec)

/-- 'additivelaw06.RunsMoves', WHERE WHAT IT READS IS OF BULK AT MOST 1048576: true; the input reads as it did. -/
def runsMovesUptoRow : OpenClaim := { program := "ythcecfeanhmcaaa", sum := "80384a6b804ce22060073ce6a4e862ceeb1289fe50de60401e9f2ee5d5241b12", func := "additive/additivelaw06.RunsMoves", spec := "runsMoves", unfollowed := true, recurses := true, apart := false, narrowed := true }
def RunsMovesUptoSaid : Prop := runsMovesUptoRow.holds Try.pinned (OpenSpec.upto runsMovesSpec)

/-- 'additivelaw06.RunsSets', WHERE WHAT IT READS IS OF BULK AT MOST 1048576: true; the input reads as it did. -/
def runsSetsUptoRow : OpenClaim := { program := "ythcecfeanhmcaaa", sum := "80384a6b804ce22060073ce6a4e862ceeb1289fe50de60401e9f2ee5d5241b12", func := "additive/additivelaw06.RunsSets", spec := "runsSets", unfollowed := true, recurses := true, apart := false, narrowed := true }
def RunsSetsUptoSaid : Prop := runsSetsUptoRow.holds Try.pinned (OpenSpec.upto runsSetsSpec)

/-- 'additivelaw06.RunsAdjoint', WHERE WHAT IT READS IS OF BULK AT MOST 1048576: true; the input reads as it did. -/
def runsAdjointUptoRow : OpenClaim := { program := "ythcecfeanhmcaaa", sum := "80384a6b804ce22060073ce6a4e862ceeb1289fe50de60401e9f2ee5d5241b12", func := "additive/additivelaw06.RunsAdjoint", spec := "runsAdjoint", unfollowed := true, recurses := true, apart := false, narrowed := true }
def RunsAdjointUptoSaid : Prop := runsAdjointUptoRow.holds Try.pinned (OpenSpec.upto runsAdjointSpec)

/-- 'additivelaw44.AheadValid', WHERE WHAT IT READS IS OF BULK AT MOST 1048576: true; the input reads as it did. -/
def aheadValidUptoRow : OpenClaim := { program := "ythcecfeanhmcaaa", sum := "80384a6b804ce22060073ce6a4e862ceeb1289fe50de60401e9f2ee5d5241b12", func := "additive/additivelaw44.AheadValid", spec := "aheadValid", unfollowed := true, recurses := true, apart := false, narrowed := true }
def AheadValidUptoSaid : Prop := aheadValidUptoRow.holds Try.pinned (OpenSpec.upto aheadValidSpec)

/-- 'additivelaw44.AheadFeasible', WHERE WHAT IT READS IS OF BULK AT MOST 1048576: true; the input reads as it did. -/
def aheadFeasibleUptoRow : OpenClaim := { program := "ythcecfeanhmcaaa", sum := "80384a6b804ce22060073ce6a4e862ceeb1289fe50de60401e9f2ee5d5241b12", func := "additive/additivelaw44.AheadFeasible", spec := "aheadFeasible", unfollowed := true, recurses := true, apart := false, narrowed := true }
def AheadFeasibleUptoSaid : Prop := aheadFeasibleUptoRow.holds Try.pinned (OpenSpec.upto aheadFeasibleSpec)

/-- 'additivelaw44.AheadPlans', WHERE WHAT IT READS IS OF BULK AT MOST 1048576: true; the input reads as it did. -/
def aheadPlansUptoRow : OpenClaim := { program := "ythcecfeanhmcaaa", sum := "80384a6b804ce22060073ce6a4e862ceeb1289fe50de60401e9f2ee5d5241b12", func := "additive/additivelaw44.AheadPlans", spec := "aheadPlans", unfollowed := true, recurses := true, apart := false, narrowed := true }
def AheadPlansUptoSaid : Prop := aheadPlansUptoRow.holds Try.pinned (OpenSpec.upto aheadPlansSpec)

/-- 'additivelaw44.AheadGreatest', WHERE WHAT IT READS IS OF BULK AT MOST 1048576: true; the input reads as it did. -/
def aheadGreatestUptoRow : OpenClaim := { program := "ythcecfeanhmcaaa", sum := "80384a6b804ce22060073ce6a4e862ceeb1289fe50de60401e9f2ee5d5241b12", func := "additive/additivelaw44.AheadGreatest", spec := "aheadGreatest", unfollowed := true, recurses := true, apart := false, narrowed := true }
def AheadGreatestUptoSaid : Prop := aheadGreatestUptoRow.holds Try.pinned (OpenSpec.upto aheadGreatestSpec)

/-- 'additivelaw44.AheadTight', WHERE WHAT IT READS IS OF BULK AT MOST 1048576: true; the input reads as it did. -/
def aheadTightUptoRow : OpenClaim := { program := "ythcecfeanhmcaaa", sum := "80384a6b804ce22060073ce6a4e862ceeb1289fe50de60401e9f2ee5d5241b12", func := "additive/additivelaw44.AheadTight", spec := "aheadTight", unfollowed := true, recurses := true, apart := false, narrowed := true }
def AheadTightUptoSaid : Prop := aheadTightUptoRow.holds Try.pinned (OpenSpec.upto aheadTightSpec)

/-- 'additivelaw44.AheadCaps', WHERE WHAT IT READS IS OF BULK AT MOST 1048576: true; the input reads as it did. -/
def aheadCapsUptoRow : OpenClaim := { program := "ythcecfeanhmcaaa", sum := "80384a6b804ce22060073ce6a4e862ceeb1289fe50de60401e9f2ee5d5241b12", func := "additive/additivelaw44.AheadCaps", spec := "aheadCaps", unfollowed := true, recurses := true, apart := false, narrowed := true }
def AheadCapsUptoSaid : Prop := aheadCapsUptoRow.holds Try.pinned (OpenSpec.upto aheadCapsSpec)

end Rows
end Go.Proofs.Ythcecfeanhmcaaa
