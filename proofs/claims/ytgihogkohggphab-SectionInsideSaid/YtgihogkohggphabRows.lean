/-
  No cell of these rows narrows 'for every input' (looked for: loops, veiled, ifaces, maps, wideKeys, modest, calm, conditions, laid).
  DERIVED. THE GIVEN ROWS OF THIS SEAT. 6 by the template 'for every input the law returns true; each argument reads behind the call as it read before'; 0 by the template 'total and deterministic' (their statements: YtgihogkohggphabTotals.lean).
  GIVEN WITH THE SEED: the statements are not yours to turn. If you find one false, say at which input.
  Laid BY PROGRAM, IN A SANDBOX (cutbox-rows.mjs): the forced cells as the released guide's own fill.sh prints them over the translation 58faa13381649e61… (all of the seat's roots in one cut). By AI agents, Wed Nov 11 2026. No macro, syntax, notation, axiom, sorry.
-/
import Derived.Test.YtgihogkohggphabChecked
import GoSem.Claim
import GoSem.ClaimJoined
import GoSem.ClaimMapViews
import Derived.JoinedTies
import Derived.KernelRfl
namespace Go.Proofs.Ytgihogkohggphab
/- THE CELL 'sum', in the pinned program and in every row, IS THE sha256 OF THE DUMP (.gsa) THAT YtgihogkohggphabProg.lean LOADS. Nothing in Lean hashes anything: it is a label: what it is worth is what the hold of that sum in a sandbox is worth. -/
noncomputable def Try.pinned : Pinned := { name := "ytgihogkohggphab", sum := "58faa13381649e616bb8977c11a64ed30de0ffc429f3855702a24f406c1fd349", checked := Try.checked }
namespace Rows
def none {H : Type} : Left H := { results := [], args := [] }

/-- 'additivelaw15.SectionPoints': WHATEVER THE INPUT: true; the input reads as it did. -/
def sectionPointsSpec : ChangeSpec := { name := "sectionPoints", fn := fun _ => fun
  | [d1, d2, d3] => { results := [.lit (.bool true)], args := [d1, d2, d3] }
  | _ => none }
def sectionPointsRow : OpenClaim := { program := "ytgihogkohggphab", sum := "58faa13381649e616bb8977c11a64ed30de0ffc429f3855702a24f406c1fd349", func := "additive/additivelaw15.SectionPoints", spec := "sectionPoints", plainKeys := false, apart := false }
def SectionPointsSaid : Prop := sectionPointsRow.holds Try.pinned (OpenSpec.ofChange sectionPointsSpec)

/-- ITS FALSE NEIGHBOUR: 'it returns false'. Refute it at one input. -/
def sectionPointsWrong : ChangeSpec := { name := "sectionPoints", fn := fun _ => fun
  | [d1, d2, d3] => { results := [.lit (.bool false)], args := [d1, d2, d3] }
  | _ => none }
def SectionPointsWrongFalsely : Prop := sectionPointsRow.holds Try.pinned (OpenSpec.ofChange sectionPointsWrong)

/-- 'additivelaw15.SectionCuts': WHATEVER THE INPUT: true; the input reads as it did. -/
def sectionCutsSpec : ChangeSpec := { name := "sectionCuts", fn := fun _ => fun
  | [d1, d2] => { results := [.lit (.bool true)], args := [d1, d2] }
  | _ => none }
def sectionCutsRow : OpenClaim := { program := "ytgihogkohggphab", sum := "58faa13381649e616bb8977c11a64ed30de0ffc429f3855702a24f406c1fd349", func := "additive/additivelaw15.SectionCuts", spec := "sectionCuts", plainKeys := false, apart := false }
def SectionCutsSaid : Prop := sectionCutsRow.holds Try.pinned (OpenSpec.ofChange sectionCutsSpec)

/-- ITS FALSE NEIGHBOUR: 'it returns false'. Refute it at one input. -/
def sectionCutsWrong : ChangeSpec := { name := "sectionCuts", fn := fun _ => fun
  | [d1, d2] => { results := [.lit (.bool false)], args := [d1, d2] }
  | _ => none }
def SectionCutsWrongFalsely : Prop := sectionCutsRow.holds Try.pinned (OpenSpec.ofChange sectionCutsWrong)

/-- 'additivelaw15.SectionBalanced': WHATEVER THE INPUT: true; the input reads as it did. -/
def sectionBalancedSpec : ChangeSpec := { name := "sectionBalanced", fn := fun _ => fun
  | [d1, d2] => { results := [.lit (.bool true)], args := [d1, d2] }
  | _ => none }
def sectionBalancedRow : OpenClaim := { program := "ytgihogkohggphab", sum := "58faa13381649e616bb8977c11a64ed30de0ffc429f3855702a24f406c1fd349", func := "additive/additivelaw15.SectionBalanced", spec := "sectionBalanced", unfollowed := true, recurses := true, plainKeys := false, apart := false }
def SectionBalancedSaid : Prop := sectionBalancedRow.holds Try.pinned (OpenSpec.ofChange sectionBalancedSpec)

/-- ITS FALSE NEIGHBOUR: 'it returns false'. Refute it at one input. -/
def sectionBalancedWrong : ChangeSpec := { name := "sectionBalanced", fn := fun _ => fun
  | [d1, d2] => { results := [.lit (.bool false)], args := [d1, d2] }
  | _ => none }
def SectionBalancedWrongFalsely : Prop := sectionBalancedRow.holds Try.pinned (OpenSpec.ofChange sectionBalancedWrong)

/-- 'additivelaw15.SectionInside': WHATEVER THE INPUT: true; the input reads as it did. -/
def sectionInsideSpec : ChangeSpec := { name := "sectionInside", fn := fun _ => fun
  | [d1, d2, d3] => { results := [.lit (.bool true)], args := [d1, d2, d3] }
  | _ => none }
def sectionInsideRow : OpenClaim := { program := "ytgihogkohggphab", sum := "58faa13381649e616bb8977c11a64ed30de0ffc429f3855702a24f406c1fd349", func := "additive/additivelaw15.SectionInside", spec := "sectionInside", plainKeys := false, apart := false }
def SectionInsideSaid : Prop := sectionInsideRow.holds Try.pinned (OpenSpec.ofChange sectionInsideSpec)

/-- ITS FALSE NEIGHBOUR: 'it returns false'. Refute it at one input. -/
def sectionInsideWrong : ChangeSpec := { name := "sectionInside", fn := fun _ => fun
  | [d1, d2, d3] => { results := [.lit (.bool false)], args := [d1, d2, d3] }
  | _ => none }
def SectionInsideWrongFalsely : Prop := sectionInsideRow.holds Try.pinned (OpenSpec.ofChange sectionInsideWrong)

/-- 'additivelaw15.SectionReversed': WHATEVER THE INPUT: true; the input reads as it did. -/
def sectionReversedSpec : ChangeSpec := { name := "sectionReversed", fn := fun _ => fun
  | [d1, d2] => { results := [.lit (.bool true)], args := [d1, d2] }
  | _ => none }
def sectionReversedRow : OpenClaim := { program := "ytgihogkohggphab", sum := "58faa13381649e616bb8977c11a64ed30de0ffc429f3855702a24f406c1fd349", func := "additive/additivelaw15.SectionReversed", spec := "sectionReversed", plainKeys := false, apart := false }
def SectionReversedSaid : Prop := sectionReversedRow.holds Try.pinned (OpenSpec.ofChange sectionReversedSpec)

/-- ITS FALSE NEIGHBOUR: 'it returns false'. Refute it at one input. -/
def sectionReversedWrong : ChangeSpec := { name := "sectionReversed", fn := fun _ => fun
  | [d1, d2] => { results := [.lit (.bool false)], args := [d1, d2] }
  | _ => none }
def SectionReversedWrongFalsely : Prop := sectionReversedRow.holds Try.pinned (OpenSpec.ofChange sectionReversedWrong)

/-- 'additivelaw15.SectionCounts': WHATEVER THE INPUT: true; the input reads as it did. -/
def sectionCountsSpec : ChangeSpec := { name := "sectionCounts", fn := fun _ => fun
  | [d1, d2] => { results := [.lit (.bool true)], args := [d1, d2] }
  | _ => none }
def sectionCountsRow : OpenClaim := { program := "ytgihogkohggphab", sum := "58faa13381649e616bb8977c11a64ed30de0ffc429f3855702a24f406c1fd349", func := "additive/additivelaw15.SectionCounts", spec := "sectionCounts", plainKeys := false, apart := false }
def SectionCountsSaid : Prop := sectionCountsRow.holds Try.pinned (OpenSpec.ofChange sectionCountsSpec)

/-- ITS FALSE NEIGHBOUR: 'it returns false'. Refute it at one input. -/
def sectionCountsWrong : ChangeSpec := { name := "sectionCounts", fn := fun _ => fun
  | [d1, d2] => { results := [.lit (.bool false)], args := [d1, d2] }
  | _ => none }
def SectionCountsWrongFalsely : Prop := sectionCountsRow.holds Try.pinned (OpenSpec.ofChange sectionCountsWrong)

/- THE SECOND FORM. 'bulk': how many values and letters a reading holds, each counted each time it is reached (what is shared counts as often as it is met; a slice's spare places count too). A statement '..UptoSaid' is the law's where the arguments, and the package variables that the reading takes, are together of bulk at most 1048576: NARROWER than '..Said'. Prove '..Said' where nothing that the law and all that it calls make is longer than what came in: it says more and counts as full. Else prove '..UptoSaid'. A law counts once. -/
mutual
def uptoBulk {H : Type} : DataW H → Nat
  | .lit (.string bytes) => bytes.length + 1
  | .lit _ => 1
  | .nil => 1
  | .ptr d => uptoBulk d + 1
  | .slice elems spare => uptoBulkAll elems + uptoBulkAll spare + 1
  | .agg parts => uptoBulkAll parts + 1
  | .iface _ d => uptoBulk d + 1
  | .map entries => uptoBulkEntries entries + 1
  | .held _ => 1
def uptoBulkAll {H : Type} : List (DataW H) → Nat
  | [] => 0
  | d :: r => uptoBulk d + uptoBulkAll r
def uptoBulkEntries {H : Type} : List (Lit × DataW H) → Nat
  | [] => 0
  | x :: r => uptoBulkEntry x + uptoBulkEntries r
def uptoBulkEntry {H : Type} : Lit × DataW H → Nat
  | (.string bytes, d) => bytes.length + uptoBulk d + 1
  | (_, d) => uptoBulk d + 1
 end
def uptoSmall : (H : Type) → List (DataW H) → Bool := fun _ ds => decide (uptoBulkAll ds ≤ 1048576)
def OpenSpec.upto (s : _root_.Go.ChangeSpec) : _root_.Go.OpenSpec := { _root_.Go.OpenSpec.ofChange s with cond := some uptoSmall }

/-- 'additivelaw15.SectionPoints', WHERE WHAT IT READS IS OF BULK AT MOST 1048576: true; the input reads as it did. -/
def sectionPointsUptoRow : OpenClaim := { program := "ytgihogkohggphab", sum := "58faa13381649e616bb8977c11a64ed30de0ffc429f3855702a24f406c1fd349", func := "additive/additivelaw15.SectionPoints", spec := "sectionPoints", plainKeys := false, apart := false, narrowed := true }
def SectionPointsUptoSaid : Prop := sectionPointsUptoRow.holds Try.pinned (OpenSpec.upto sectionPointsSpec)

/-- 'additivelaw15.SectionCuts', WHERE WHAT IT READS IS OF BULK AT MOST 1048576: true; the input reads as it did. -/
def sectionCutsUptoRow : OpenClaim := { program := "ytgihogkohggphab", sum := "58faa13381649e616bb8977c11a64ed30de0ffc429f3855702a24f406c1fd349", func := "additive/additivelaw15.SectionCuts", spec := "sectionCuts", plainKeys := false, apart := false, narrowed := true }
def SectionCutsUptoSaid : Prop := sectionCutsUptoRow.holds Try.pinned (OpenSpec.upto sectionCutsSpec)

/-- 'additivelaw15.SectionBalanced', WHERE WHAT IT READS IS OF BULK AT MOST 1048576: true; the input reads as it did. -/
def sectionBalancedUptoRow : OpenClaim := { program := "ytgihogkohggphab", sum := "58faa13381649e616bb8977c11a64ed30de0ffc429f3855702a24f406c1fd349", func := "additive/additivelaw15.SectionBalanced", spec := "sectionBalanced", unfollowed := true, recurses := true, plainKeys := false, apart := false, narrowed := true }
def SectionBalancedUptoSaid : Prop := sectionBalancedUptoRow.holds Try.pinned (OpenSpec.upto sectionBalancedSpec)

/-- 'additivelaw15.SectionInside', WHERE WHAT IT READS IS OF BULK AT MOST 1048576: true; the input reads as it did. -/
def sectionInsideUptoRow : OpenClaim := { program := "ytgihogkohggphab", sum := "58faa13381649e616bb8977c11a64ed30de0ffc429f3855702a24f406c1fd349", func := "additive/additivelaw15.SectionInside", spec := "sectionInside", plainKeys := false, apart := false, narrowed := true }
def SectionInsideUptoSaid : Prop := sectionInsideUptoRow.holds Try.pinned (OpenSpec.upto sectionInsideSpec)

/-- 'additivelaw15.SectionReversed', WHERE WHAT IT READS IS OF BULK AT MOST 1048576: true; the input reads as it did. -/
def sectionReversedUptoRow : OpenClaim := { program := "ytgihogkohggphab", sum := "58faa13381649e616bb8977c11a64ed30de0ffc429f3855702a24f406c1fd349", func := "additive/additivelaw15.SectionReversed", spec := "sectionReversed", plainKeys := false, apart := false, narrowed := true }
def SectionReversedUptoSaid : Prop := sectionReversedUptoRow.holds Try.pinned (OpenSpec.upto sectionReversedSpec)

/-- 'additivelaw15.SectionCounts', WHERE WHAT IT READS IS OF BULK AT MOST 1048576: true; the input reads as it did. -/
def sectionCountsUptoRow : OpenClaim := { program := "ytgihogkohggphab", sum := "58faa13381649e616bb8977c11a64ed30de0ffc429f3855702a24f406c1fd349", func := "additive/additivelaw15.SectionCounts", spec := "sectionCounts", plainKeys := false, apart := false, narrowed := true }
def SectionCountsUptoSaid : Prop := sectionCountsUptoRow.holds Try.pinned (OpenSpec.upto sectionCountsSpec)

end Rows
end Go.Proofs.Ytgihogkohggphab
