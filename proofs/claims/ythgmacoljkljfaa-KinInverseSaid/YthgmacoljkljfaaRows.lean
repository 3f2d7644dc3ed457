/-
  No cell of these rows narrows 'for every input' (looked for: loops, veiled, ifaces, maps, wideKeys, modest, calm, conditions, laid).
  DERIVED. THE GIVEN ROWS OF THIS SEAT. 12 by the template 'for every input the law returns true; each argument reads behind the call as it read before'; 0 by the template 'total and deterministic' (their statements: YthgmacoljkljfaaTotals.lean).
  GIVEN WITH THE SEED: the statements are not yours to turn. If you find one false, say at which input.
  Laid BY PROGRAM, IN A SANDBOX (cutbox-rows.mjs): the forced cells as the released guide's own fill.sh prints them over the translation f0e9b9cb2b94fa8d… (all of the seat's roots in one cut). By AI agents, Wed Nov 11 2026. No macro, syntax, notation, axiom, sorry.
-/
import Derived.Test.YthgmacoljkljfaaChecked
import GoSem.Claim
import GoSem.ClaimJoined
import GoSem.ClaimMapViews
import Derived.JoinedTies
import Derived.KernelRfl
namespace Go.Proofs.Ythgmacoljkljfaa
/- THE CELL 'sum', in the pinned program and in every row, IS THE sha256 OF THE DUMP (.gsa) THAT YthgmacoljkljfaaProg.lean LOADS. Nothing in Lean hashes anything: it is a label: what it is worth is what the hold of that sum in a sandbox is worth. -/
noncomputable def Try.pinned : Pinned := { name := "ythgmacoljkljfaa", sum := "f0e9b9cb2b94fa8d46db5e2e25fd7573c02e081771a815ee7983eddd6037094f", checked := Try.checked }
namespace Rows
def none {H : Type} : Left H := { results := [], args := [] }

/-- 'additivelaw41.KinChecks': WHATEVER THE INPUT: true; the input reads as it did. -/
def kinChecksSpec : ChangeSpec := { name := "kinChecks", fn := fun _ => fun
  | [d1, d2] => { results := [.lit (.bool true)], args := [d1, d2] }
  | _ => none }
def kinChecksRow : OpenClaim := { program := "ythgmacoljkljfaa", sum := "f0e9b9cb2b94fa8d46db5e2e25fd7573c02e081771a815ee7983eddd6037094f", func := "additive/additivelaw41.KinChecks", spec := "kinChecks", apart := false }
def KinChecksSaid : Prop := kinChecksRow.holds Try.pinned (OpenSpec.ofChange kinChecksSpec)

/-- ITS FALSE NEIGHBOUR: 'it returns false'. Refute it at one input. -/
def kinChecksWrong : ChangeSpec := { name := "kinChecks", fn := fun _ => fun
  | [d1, d2] => { results := [.lit (.bool false)], args := [d1, d2] }
  | _ => none }
def KinChecksWrongFalsely : Prop := kinChecksRow.holds Try.pinned (OpenSpec.ofChange kinChecksWrong)

/-- 'additivelaw41.KinSteps': WHATEVER THE INPUT: true; the input reads as it did. -/
def kinStepsSpec : ChangeSpec := { name := "kinSteps", fn := fun _ => fun
  | [d1, d2, d3] => { results := [.lit (.bool true)], args := [d1, d2, d3] }
  | _ => none }
def kinStepsRow : OpenClaim := { program := "ythgmacoljkljfaa", sum := "f0e9b9cb2b94fa8d46db5e2e25fd7573c02e081771a815ee7983eddd6037094f", func := "additive/additivelaw41.KinSteps", spec := "kinSteps", apart := false }
def KinStepsSaid : Prop := kinStepsRow.holds Try.pinned (OpenSpec.ofChange kinStepsSpec)

/-- ITS FALSE NEIGHBOUR: 'it returns false'. Refute it at one input. -/
def kinStepsWrong : ChangeSpec := { name := "kinSteps", fn := fun _ => fun
  | [d1, d2, d3] => { results := [.lit (.bool false)], args := [d1, d2, d3] }
  | _ => none }
def KinStepsWrongFalsely : Prop := kinStepsRow.holds Try.pinned (OpenSpec.ofChange kinStepsWrong)

/-- 'additivelaw41.KinPlaces': WHATEVER THE INPUT: true; the input reads as it did. -/
def kinPlacesSpec : ChangeSpec := { name := "kinPlaces", fn := fun _ => fun
  | [d] => { results := [.lit (.bool true)], args := [d] }
  | _ => none }
def kinPlacesRow : OpenClaim := { program := "ythgmacoljkljfaa", sum := "f0e9b9cb2b94fa8d46db5e2e25fd7573c02e081771a815ee7983eddd6037094f", func := "additive/additivelaw41.KinPlaces", spec := "kinPlaces", apart := false }
def KinPlacesSaid : Prop := kinPlacesRow.holds Try.pinned (OpenSpec.ofChange kinPlacesSpec)

/-- ITS FALSE NEIGHBOUR: 'it returns false'. Refute it at one input. -/
def kinPlacesWrong : ChangeSpec := { name := "kinPlaces", fn := fun _ => fun
  | [d] => { results := [.lit (.bool false)], args := [d] }
  | _ => none }
def KinPlacesWrongFalsely : Prop := kinPlacesRow.holds Try.pinned (OpenSpec.ofChange kinPlacesWrong)

/-- 'additivelaw41.KinInverse': WHATEVER THE INPUT: true; the input reads as it did. -/
def kinInverseSpec : ChangeSpec := { name := "kinInverse", fn := fun _ => fun
  | [d] => { results := [.lit (.bool true)], args := [d] }
  | _ => none }
def kinInverseRow : OpenClaim := { program := "ythgmacoljkljfaa", sum := "f0e9b9cb2b94fa8d46db5e2e25fd7573c02e081771a815ee7983eddd6037094f", func := "additive/additivelaw41.KinInverse", spec := "kinInverse", apart := false }
def KinInverseSaid : Prop := kinInverseRow.holds Try.pinned (OpenSpec.ofChange kinInverseSpec)

/-- ITS FALSE NEIGHBOUR: 'it returns false'. Refute it at one input. -/
def kinInverseWrong : ChangeSpec := { name := "kinInverse", fn := fun _ => fun
  | [d] => { results := [.lit (.bool false)], args := [d] }
  | _ => none }
def KinInverseWrongFalsely : Prop := kinInverseRow.holds Try.pinned (OpenSpec.ofChange kinInverseWrong)

/-- 'additivelaw41.KinNearest': WHATEVER THE INPUT: true; the input reads as it did. -/
def kinNearestSpec : ChangeSpec := { name := "kinNearest", fn := fun _ => fun
  | [d1, d2, d3] => { results := [.lit (.bool true)], args := [d1, d2, d3] }
  | _ => none }
def kinNearestRow : OpenClaim := { program := "ythgmacoljkljfaa", sum := "f0e9b9cb2b94fa8d46db5e2e25fd7573c02e081771a815ee7983eddd6037094f", func := "additive/additivelaw41.KinNearest", spec := "kinNearest", apart := false }
def KinNearestSaid : Prop := kinNearestRow.holds Try.pinned (OpenSpec.ofChange kinNearestSpec)

/-- ITS FALSE NEIGHBOUR: 'it returns false'. Refute it at one input. -/
def kinNearestWrong : ChangeSpec := { name := "kinNearest", fn := fun _ => fun
  | [d1, d2, d3] => { results := [.lit (.bool false)], args := [d1, d2, d3] }
  | _ => none }
def KinNearestWrongFalsely : Prop := kinNearestRow.holds Try.pinned (OpenSpec.ofChange kinNearestWrong)

/-- 'additivelaw41.KinMonotone': WHATEVER THE INPUT: true; the input reads as it did. -/
def kinMonotoneSpec : ChangeSpec := { name := "kinMonotone", fn := fun _ => fun
  | [d1, d2, d3] => { results := [.lit (.bool true)], args := [d1, d2, d3] }
  | _ => none }
def kinMonotoneRow : OpenClaim := { program := "ythgmacoljkljfaa", sum := "f0e9b9cb2b94fa8d46db5e2e25fd7573c02e081771a815ee7983eddd6037094f", func := "additive/additivelaw41.KinMonotone", spec := "kinMonotone", apart := false }
def KinMonotoneSaid : Prop := kinMonotoneRow.holds Try.pinned (OpenSpec.ofChange kinMonotoneSpec)

/-- ITS FALSE NEIGHBOUR: 'it returns false'. Refute it at one input. -/
def kinMonotoneWrong : ChangeSpec := { name := "kinMonotone", fn := fun _ => fun
  | [d1, d2, d3] => { results := [.lit (.bool false)], args := [d1, d2, d3] }
  | _ => none }
def KinMonotoneWrongFalsely : Prop := kinMonotoneRow.holds Try.pinned (OpenSpec.ofChange kinMonotoneWrong)

/-- 'additivelaw48.ThermalChecks': WHATEVER THE INPUT: true; the input reads as it did. -/
def thermalChecksSpec : ChangeSpec := { name := "thermalChecks", fn := fun _ => fun
  | [d] => { results := [.lit (.bool true)], args := [d] }
  | _ => none }
def thermalChecksRow : OpenClaim := { program := "ythgmacoljkljfaa", sum := "f0e9b9cb2b94fa8d46db5e2e25fd7573c02e081771a815ee7983eddd6037094f", func := "additive/additivelaw48.ThermalChecks", spec := "thermalChecks", unfollowed := true, recurses := true, apart := false }
def ThermalChecksSaid : Prop := thermalChecksRow.holds Try.pinned (OpenSpec.ofChange thermalChecksSpec)

/-- ITS FALSE NEIGHBOUR: 'it returns false'. Refute it at one input. -/
def thermalChecksWrong : ChangeSpec := { name := "thermalChecks", fn := fun _ => fun
  | [d] => { results := [.lit (.bool false)], args := [d] }
  | _ => none }
def ThermalChecksWrongFalsely : Prop := thermalChecksRow.holds Try.pinned (OpenSpec.ofChange thermalChecksWrong)

/-- 'additivelaw48.ThermalSteps': WHATEVER THE INPUT: true; the input reads as it did. -/
def thermalStepsSpec : ChangeSpec := { name := "thermalSteps", fn := fun _ => fun
  | [d1, d2, d3] => { results := [.lit (.bool true)], args := [d1, d2, d3] }
  | _ => none }
def thermalStepsRow : OpenClaim := { program := "ythgmacoljkljfaa", sum := "f0e9b9cb2b94fa8d46db5e2e25fd7573c02e081771a815ee7983eddd6037094f", func := "additive/additivelaw48.ThermalSteps", spec := "thermalSteps", unfollowed := true, recurses := true, apart := false }
def ThermalStepsSaid : Prop := thermalStepsRow.holds Try.pinned (OpenSpec.ofChange thermalStepsSpec)

/-- ITS FALSE NEIGHBOUR: 'it returns false'. Refute it at one input. -/
def thermalStepsWrong : ChangeSpec := { name := "thermalSteps", fn := fun _ => fun
  | [d1, d2, d3] => { results := [.lit (.bool false)], args := [d1, d2, d3] }
  | _ => none }
def ThermalStepsWrongFalsely : Prop := thermalStepsRow.holds Try.pinned (OpenSpec.ofChange thermalStepsWrong)

/-- 'additivelaw48.ThermalRuns': WHATEVER THE INPUT: true; the input reads as it did. -/
def thermalRunsSpec : ChangeSpec := { name := "thermalRuns", fn := fun _ => fun
  | [d1, d2, d3] => { results := [.lit (.bool true)], args := [d1, d2, d3] }
  | _ => none }
def thermalRunsRow : OpenClaim := { program := "ythgmacoljkljfaa", sum := "f0e9b9cb2b94fa8d46db5e2e25fd7573c02e081771a815ee7983eddd6037094f", func := "additive/additivelaw48.ThermalRuns", spec := "thermalRuns", unfollowed := true, recurses := true, apart := false }
def ThermalRunsSaid : Prop := thermalRunsRow.holds Try.pinned (OpenSpec.ofChange thermalRunsSpec)

/-- ITS FALSE NEIGHBOUR: 'it returns false'. Refute it at one input. -/
def thermalRunsWrong : ChangeSpec := { name := "thermalRuns", fn := fun _ => fun
  | [d1, d2, d3] => { results := [.lit (.bool false)], args := [d1, d2, d3] }
  | _ => none }
def ThermalRunsWrongFalsely : Prop := thermalRunsRow.holds Try.pinned (OpenSpec.ofChange thermalRunsWrong)

/-- 'additivelaw48.ThermalBounded': WHATEVER THE INPUT: true; the input reads as it did. -/
def thermalBoundedSpec : ChangeSpec := { name := "thermalBounded", fn := fun _ => fun
  | [d1, d2, d3] => { results := [.lit (.bool true)], args := [d1, d2, d3] }
  | _ => none }
def thermalBoundedRow : OpenClaim := { program := "ythgmacoljkljfaa", sum := "f0e9b9cb2b94fa8d46db5e2e25fd7573c02e081771a815ee7983eddd6037094f", func := "additive/additivelaw48.ThermalBounded", spec := "thermalBounded", unfollowed := true, recurses := true, apart := false }
def ThermalBoundedSaid : Prop := thermalBoundedRow.holds Try.pinned (OpenSpec.ofChange thermalBoundedSpec)

/-- ITS FALSE NEIGHBOUR: 'it returns false'. Refute it at one input. -/
def thermalBoundedWrong : ChangeSpec := { name := "thermalBounded", fn := fun _ => fun
  | [d1, d2, d3] => { results := [.lit (.bool false)], args := [d1, d2, d3] }
  | _ => none }
def ThermalBoundedWrongFalsely : Prop := thermalBoundedRow.holds Try.pinned (OpenSpec.ofChange thermalBoundedWrong)

/-- 'additivelaw48.ThermalMonotone': WHATEVER THE INPUT: true; the input reads as it did. -/
def thermalMonotoneSpec : ChangeSpec := { name := "thermalMonotone", fn := fun _ => fun
  | [d] => { results := [.lit (.bool true)], args := [d] }
  | _ => none }
def thermalMonotoneRow : OpenClaim := { program := "ythgmacoljkljfaa", sum := "f0e9b9cb2b94fa8d46db5e2e25fd7573c02e081771a815ee7983eddd6037094f", func := "additive/additivelaw48.ThermalMonotone", spec := "thermalMonotone", unfollowed := true, recurses := true, apart := false }
def ThermalMonotoneSaid : Prop := thermalMonotoneRow.holds Try.pinned (OpenSpec.ofChange thermalMonotoneSpec)

/-- ITS FALSE NEIGHBOUR: 'it returns false'. Refute it at one input. -/
def thermalMonotoneWrong : ChangeSpec := { name := "thermalMonotone", fn := fun _ => fun
  | [d] => { results := [.lit (.bool false)], args := [d] }
  | _ => none }
def ThermalMonotoneWrongFalsely : Prop := thermalMonotoneRow.holds Try.pinned (OpenSpec.ofChange thermalMonotoneWrong)

/-- 'additivelaw48.ThermalRests': WHATEVER THE INPUT: true; the input reads as it did. -/
def thermalRestsSpec : ChangeSpec := { name := "thermalRests", fn := fun _ => fun
  | [d1, d2] => { results := [.lit (.bool true)], args := [d1, d2] }
  | _ => none }
def thermalRestsRow : OpenClaim := { program := "ythgmacoljkljfaa", sum := "f0e9b9cb2b94fa8d46db5e2e25fd7573c02e081771a815ee7983eddd6037094f", func := "additive/additivelaw48.ThermalRests", spec := "thermalRests", unfollowed := true, recurses := true, apart := false }
def ThermalRestsSaid : Prop := thermalRestsRow.holds Try.pinned (OpenSpec.ofChange thermalRestsSpec)

/-- ITS FALSE NEIGHBOUR: 'it returns false'. Refute it at one input. -/
def thermalRestsWrong : ChangeSpec := { name := "thermalRests", fn := fun _ => fun
  | [d1, d2] => { results := [.lit (.bool false)], args := [d1, d2] }
  | _ => none }
def ThermalRestsWrongFalsely : Prop := thermalRestsRow.holds Try.pinned (OpenSpec.ofChange thermalRestsWrong)

/- THE SECOND FORM. 'bulk': how many values and letters a reading holds, each counted each time it is reached (what is shared counts as often as it is met; a slice's spare places count too). A statement '..UptoSaid' is the law's where the arguments, and the package variables that the reading takes, are together of bulk at most 1048576: NARROWER than '..Said'. Prove '..Said' where nothing that the law and all that it calls make is longer than what came in: it says more and counts as full. Else prove '..UptoSaid'. A law counts once. -/
mutual
def uptoBulk {H : Type} : DataW H → Nat
  | .lit (.string bytes) => bytes.length + 1
  | .lit _ => 1
  | .nil => 1
  | .ptr d => uptoBulk d + 1
  | .slice elems spare => uptoBulkAll elems + uptoBulkAll spare + 1
  | .agg parts => uptoBulkAll parts + 1
  | .iface _ d => uptoBulk d + 1
  | .map entries => uptoBulkEntries entries + 1
  | .held _ => 1
def uptoBulkAll {H : Type} : List (DataW H) → Nat
  | [] => 0
  | d :: r => uptoBulk d + uptoBulkAll r
def uptoBulkEntries {H : Type} : List (Lit × DataW H) → Nat
  | [] => 0
  | x :: r => uptoBulkEntry x + uptoBulkEntries r
def uptoBulkEntry {H : Type} : Lit × DataW H → Nat
  | (.string bytes, d) => bytes.length + uptoBulk d + 1
  | (_, d) => uptoBulk d + 1
 end
def uptoSmall : (H : Type) → List (DataW H) → Bool := fun _ ds => decide (uptoBulkAll ds ≤ 1048576)
def OpenSpec.upto (s : _root_.Go.ChangeSpec) : _root_.Go.OpenSpec := { _root_.Go.OpenSpec.ofChange s with cond := some uptoSmall }

/-- 'additivelaw41.KinChecks', WHERE WHAT IT READS IS OF BULK AT MOST 1048576: true; the input reads as it did. -/
def kinChecksUptoRow : OpenClaim := { program := "ythgmacoljkljfaa", sum := "f0e9b9cb2b94fa8d46db5e2e25fd7573c02e081771a815ee7983eddd6037094f", func := "additive/additivelaw41.KinChecks", spec := "kinChecks", apart := false, narrowed := true }
def KinChecksUptoSaid : Prop := kinChecksUptoRow.holds Try.pinned (OpenSpec.upto kinChecksSpec)

/-- 'additivelaw41.KinSteps', WHERE WHAT IT READS IS OF BULK AT MOST 1048576: true; the input reads as it did. -/
def kinStepsUptoRow : OpenClaim := { program := "ythgmacoljkljfaa", sum := "f0e9b9cb2b94fa8d46db5e2e25fd7573c02e081771a815ee7983eddd6037094f", func := "additive/additivelaw41.KinSteps", spec := "kinSteps", apart := false, narrowed := true }
def KinStepsUptoSaid : Prop := kinStepsUptoRow.holds Try.pinned (OpenSpec.upto kinStepsSpec)

/-- 'additivelaw41.KinPlaces', WHERE WHAT IT READS IS OF BULK AT MOST 1048576: true; the input reads as it did. -/
def kinPlacesUptoRow : OpenClaim := { program := "ythgmacoljkljfaa", sum := "f0e9b9cb2b94fa8d46db5e2e25fd7573c02e081771a815ee7983eddd6037094f", func := "additive/additivelaw41.KinPlaces", spec := "kinPlaces", apart := false, narrowed := true }
def KinPlacesUptoSaid : Prop := kinPlacesUptoRow.holds Try.pinned (OpenSpec.upto kinPlacesSpec)

/-- 'additivelaw41.KinInverse', WHERE WHAT IT READS IS OF BULK AT MOST 1048576: true; the input reads as it did. -/
def kinInverseUptoRow : OpenClaim := { program := "ythgmacoljkljfaa", sum := "f0e9b9cb2b94fa8d46db5e2e25fd7573c02e081771a815ee7983eddd6037094f", func := "additive/additivelaw41.KinInverse", spec := "kinInverse", apart := false, narrowed := true }
def KinInverseUptoSaid : Prop := kinInverseUptoRow.holds Try.pinned (OpenSpec.upto kinInverseSpec)

/-- 'additivelaw41.KinNearest', WHERE WHAT IT READS IS OF BULK AT MOST 1048576: true; the input reads as it did. -/
def kinNearestUptoRow : OpenClaim := { program := "ythgmacoljkljfaa", sum := "f0e9b9cb2b94fa8d46db5e2e25fd7573c02e081771a815ee7983eddd6037094f", func := "additive/additivelaw41.KinNearest", spec := "kinNearest", apart := false, narrowed := true }
def KinNearestUptoSaid : Prop := kinNearestUptoRow.holds Try.pinned (OpenSpec.upto kinNearestSpec)

/-- 'additivelaw41.KinMonotone', WHERE WHAT IT READS IS OF BULK AT MOST 1048576: true; the input reads as it did. -/
def kinMonotoneUptoRow : OpenClaim := { program := "ythgmacoljkljfaa", sum := "f0e9b9cb2b94fa8d46db5e2e25fd7573c02e081771a815ee7983eddd6037094f", func := "additive/additivelaw41.KinMonotone", spec := "kinMonotone", apart := false, narrowed := true }
def KinMonotoneUptoSaid : Prop := kinMonotoneUptoRow.holds Try.pinned (OpenSpec.upto kinMonotoneSpec)

/-- 'additivelaw48.ThermalChecks', WHERE WHAT IT READS IS OF BULK AT MOST 1048576: true; the input reads as it did. -/
def thermalChecksUptoRow : OpenClaim := { program := "ythgmacoljkljfaa", sum := "f0e9b9cb2b94fa8d46db5e2e25fd7573c02e081771a815ee7983eddd6037094f", func := "additive/additivelaw48.ThermalChecks", spec := "thermalChecks", unfollowed := true, recurses := true, apart := false, narrowed := true }
def ThermalChecksUptoSaid : Prop := thermalChecksUptoRow.holds Try.pinned (OpenSpec.upto thermalChecksSpec)

/-- 'additivelaw48.ThermalSteps', WHERE WHAT IT READS IS OF BULK AT MOST 1048576: true; the input reads as it did. -/
def thermalStepsUptoRow : OpenClaim := { program := "ythgmacoljkljfaa", sum := "f0e9b9cb2b94fa8d46db5e2e25fd7573c02e081771a815ee7983eddd6037094f", func := "additive/additivelaw48.ThermalSteps", spec := "thermalSteps", unfollowed := true, recurses := true, apart := false, narrowed := true }
def ThermalStepsUptoSaid : Prop := thermalStepsUptoRow.holds Try.pinned (OpenSpec.upto thermalStepsSpec)

/-- 'additivelaw48.ThermalRuns', WHERE WHAT IT READS IS OF BULK AT MOST 1048576: true; the input reads as it did. -/
def thermalRunsUptoRow : OpenClaim := { program := "ythgmacoljkljfaa", sum := "f0e9b9cb2b94fa8d46db5e2e25fd7573c02e081771a815ee7983eddd6037094f", func := "additive/additivelaw48.ThermalRuns", spec := "thermalRuns", unfollowed := true, recurses := true, apart := false, narrowed := true }
def ThermalRunsUptoSaid : Prop := thermalRunsUptoRow.holds Try.pinned (OpenSpec.upto thermalRunsSpec)

/-- 'additivelaw48.ThermalBounded', WHERE WHAT IT READS IS OF BULK AT MOST 1048576: true; the input reads as it did. -/
def thermalBoundedUptoRow : OpenClaim := { program := "ythgmacoljkljfaa", sum := "f0e9b9cb2b94fa8d46db5e2e25fd7573c02e081771a815ee7983eddd6037094f", func := "additive/additivelaw48.ThermalBounded", spec := "thermalBounded", unfollowed := true, recurses := true, apart := false, narrowed := true }
def ThermalBoundedUptoSaid : Prop := thermalBoundedUptoRow.holds Try.pinned (OpenSpec.upto thermalBoundedSpec)

/-- 'additivelaw48.ThermalMonotone', WHERE WHAT IT READS IS OF BULK AT MOST 1048576: true; the input reads as it did. -/
def thermalMonotoneUptoRow : OpenClaim := { program := "ythgmacoljkljfaa", sum := "f0e9b9cb2b94fa8d46db5e2e25fd7573c02e081771a815ee7983eddd6037094f", func := "additive/additivelaw48.ThermalMonotone", spec := "thermalMonotone", unfollowed := true, recurses := true, apart := false, narrowed := true }
def ThermalMonotoneUptoSaid : Prop := thermalMonotoneUptoRow.holds Try.pinned (OpenSpec.upto thermalMonotoneSpec)

/-- 'additivelaw48.ThermalRests', WHERE WHAT IT READS IS OF BULK AT MOST 1048576: true; the input reads as it did. -/
def thermalRestsUptoRow : OpenClaim := { program := "ythgmacoljkljfaa", sum := "f0e9b9cb2b94fa8d46db5e2e25fd7573c02e081771a815ee7983eddd6037094f", func := "additive/additivelaw48.ThermalRests", spec := "thermalRests", unfollowed := true, recurses := true, apart := false, narrowed := true }
def ThermalRestsUptoSaid : Prop := thermalRestsUptoRow.holds Try.pinned (OpenSpec.upto thermalRestsSpec)

end Rows
end Go.Proofs.Ythgmacoljkljfaa
