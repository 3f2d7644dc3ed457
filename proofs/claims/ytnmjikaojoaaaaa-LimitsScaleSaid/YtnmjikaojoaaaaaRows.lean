/-
  No cell of these rows narrows 'for every input' (looked for: loops, veiled, ifaces, maps, wideKeys, modest, calm, conditions, laid).
  DERIVED. THE GIVEN ROWS OF THIS SEAT. 11 by the template 'for every input the law returns true; each argument reads behind the call as it read before'; 0 by the template 'total and deterministic' (their statements: YtnmjikaojoaaaaaTotals.lean).
  GIVEN WITH THE SEED: the statements are not yours to turn. If you find one false, say at which input.
  Laid BY PROGRAM, IN A SANDBOX (cutbox-rows.mjs): the forced cells as the released guide's own fill.sh prints them over the translation bc4e255881bb114c… (all of the seat's roots in one cut). By AI agents, Wed Nov 11 2026. No macro, syntax, notation, axiom, sorry.
-/
import Derived.Test.YtnmjikaojoaaaaaChecked
import GoSem.Claim
import GoSem.ClaimJoined
import GoSem.ClaimMapViews
import Derived.JoinedTies
import Derived.KernelRfl
namespace Go.Proofs.Ytnmjikaojoaaaaa
/- THE CELL 'sum', in the pinned program and in every row, IS THE sha256 OF THE DUMP (.gsa) THAT YtnmjikaojoaaaaaProg.lean LOADS. Nothing in Lean hashes anything: it is a label: what it is worth is what the hold of that sum in a sandbox is worth. -/
noncomputable def Try.pinned : Pinned := { name := "ytnmjikaojoaaaaa", sum := "bc4e255881bb114ca971b71e45e4b1d40202215880a7cf08e909818ff907fcba", checked := Try.checked }
namespace Rows
def none {H : Type} : Left H := { results := [], args := [] }

/-- 'additivelaw43.LimitsSpeeds': WHATEVER THE INPUT: true; the input reads as it did. -/
def limitsSpeedsSpec : ChangeSpec := { name := "limitsSpeeds", fn := fun _ => fun
  | [d1, d2, d3, d4] => { results := [.lit (.bool true)], args := [d1, d2, d3, d4] }
  | _ => none }
def limitsSpeedsRow : OpenClaim := { program := "ytnmjikaojoaaaaa", sum := "bc4e255881bb114ca971b71e45e4b1d40202215880a7cf08e909818ff907fcba", func := "additive/additivelaw43.LimitsSpeeds", spec := "limitsSpeeds", named := ["math/bits.divideError", "math/bits.overflowError"], apart := false }
def LimitsSpeedsSaid : Prop := limitsSpeedsRow.holds Try.pinned (OpenSpec.ofChange limitsSpeedsSpec)

/-- ITS FALSE NEIGHBOUR: 'it returns false'. Refute it at one input. -/
def limitsSpeedsWrong : ChangeSpec := { name := "limitsSpeeds", fn := fun _ => fun
  | [d1, d2, d3, d4] => { results := [.lit (.bool false)], args := [d1, d2, d3, d4] }
  | _ => none }
def LimitsSpeedsWrongFalsely : Prop := limitsSpeedsRow.holds Try.pinned (OpenSpec.ofChange limitsSpeedsWrong)

/-- 'additivelaw43.LimitsAccels': WHATEVER THE INPUT: true; the input reads as it did. -/
def limitsAccelsSpec : ChangeSpec := { name := "limitsAccels", fn := fun _ => fun
  | [d1, d2, d3] => { results := [.lit (.bool true)], args := [d1, d2, d3] }
  | _ => none }
def limitsAccelsRow : OpenClaim := { program := "ytnmjikaojoaaaaa", sum := "bc4e255881bb114ca971b71e45e4b1d40202215880a7cf08e909818ff907fcba", func := "additive/additivelaw43.LimitsAccels", spec := "limitsAccels", named := ["math/bits.divideError", "math/bits.overflowError"], apart := false }
def LimitsAccelsSaid : Prop := limitsAccelsRow.holds Try.pinned (OpenSpec.ofChange limitsAccelsSpec)

/-- ITS FALSE NEIGHBOUR: 'it returns false'. Refute it at one input. -/
def limitsAccelsWrong : ChangeSpec := { name := "limitsAccels", fn := fun _ => fun
  | [d1, d2, d3] => { results := [.lit (.bool false)], args := [d1, d2, d3] }
  | _ => none }
def LimitsAccelsWrongFalsely : Prop := limitsAccelsRow.holds Try.pinned (OpenSpec.ofChange limitsAccelsWrong)

/-- 'additivelaw43.LimitsHold': WHATEVER THE INPUT: true; the input reads as it did. -/
def limitsHoldSpec : ChangeSpec := { name := "limitsHold", fn := fun _ => fun
  | [d1, d2, d3, d4, d5] => { results := [.lit (.bool true)], args := [d1, d2, d3, d4, d5] }
  | _ => none }
def limitsHoldRow : OpenClaim := { program := "ytnmjikaojoaaaaa", sum := "bc4e255881bb114ca971b71e45e4b1d40202215880a7cf08e909818ff907fcba", func := "additive/additivelaw43.LimitsHold", spec := "limitsHold", named := ["math/bits.divideError", "math/bits.overflowError"], apart := false }
def LimitsHoldSaid : Prop := limitsHoldRow.holds Try.pinned (OpenSpec.ofChange limitsHoldSpec)

/-- ITS FALSE NEIGHBOUR: 'it returns false'. Refute it at one input. -/
def limitsHoldWrong : ChangeSpec := { name := "limitsHold", fn := fun _ => fun
  | [d1, d2, d3, d4, d5] => { results := [.lit (.bool false)], args := [d1, d2, d3, d4, d5] }
  | _ => none }
def LimitsHoldWrongFalsely : Prop := limitsHoldRow.holds Try.pinned (OpenSpec.ofChange limitsHoldWrong)

/-- 'additivelaw43.LimitsScale': WHATEVER THE INPUT: true; the input reads as it did. -/
def limitsScaleSpec : ChangeSpec := { name := "limitsScale", fn := fun _ => fun
  | [d1, d2, d3, d4] => { results := [.lit (.bool true)], args := [d1, d2, d3, d4] }
  | _ => none }
def limitsScaleRow : OpenClaim := { program := "ytnmjikaojoaaaaa", sum := "bc4e255881bb114ca971b71e45e4b1d40202215880a7cf08e909818ff907fcba", func := "additive/additivelaw43.LimitsScale", spec := "limitsScale", named := ["math/bits.divideError", "math/bits.overflowError"], apart := false }
def LimitsScaleSaid : Prop := limitsScaleRow.holds Try.pinned (OpenSpec.ofChange limitsScaleSpec)

/-- ITS FALSE NEIGHBOUR: 'it returns false'. Refute it at one input. -/
def limitsScaleWrong : ChangeSpec := { name := "limitsScale", fn := fun _ => fun
  | [d1, d2, d3, d4] => { results := [.lit (.bool false)], args := [d1, d2, d3, d4] }
  | _ => none }
def LimitsScaleWrongFalsely : Prop := limitsScaleRow.holds Try.pinned (OpenSpec.ofChange limitsScaleWrong)

/-- 'additivelaw43.LimitsTurn': WHATEVER THE INPUT: true; the input reads as it did. -/
def limitsTurnSpec : ChangeSpec := { name := "limitsTurn", fn := fun _ => fun
  | [d1, d2, d3] => { results := [.lit (.bool true)], args := [d1, d2, d3] }
  | _ => none }
def limitsTurnRow : OpenClaim := { program := "ytnmjikaojoaaaaa", sum := "bc4e255881bb114ca971b71e45e4b1d40202215880a7cf08e909818ff907fcba", func := "additive/additivelaw43.LimitsTurn", spec := "limitsTurn", named := ["math/bits.divideError", "math/bits.overflowError"], apart := false }
def LimitsTurnSaid : Prop := limitsTurnRow.holds Try.pinned (OpenSpec.ofChange limitsTurnSpec)

/-- ITS FALSE NEIGHBOUR: 'it returns false'. Refute it at one input. -/
def limitsTurnWrong : ChangeSpec := { name := "limitsTurn", fn := fun _ => fun
  | [d1, d2, d3] => { results := [.lit (.bool false)], args := [d1, d2, d3] }
  | _ => none }
def LimitsTurnWrongFalsely : Prop := limitsTurnRow.holds Try.pinned (OpenSpec.ofChange limitsTurnWrong)

/-- 'additivelaw50.GuardSteps': WHATEVER THE INPUT: true; the input reads as it did. -/
def guardStepsSpec : ChangeSpec := { name := "guardSteps", fn := fun _ => fun
  | [d1, d2, d3, d4] => { results := [.lit (.bool true)], args := [d1, d2, d3, d4] }
  | _ => none }
def guardStepsRow : OpenClaim := { program := "ytnmjikaojoaaaaa", sum := "bc4e255881bb114ca971b71e45e4b1d40202215880a7cf08e909818ff907fcba", func := "additive/additivelaw50.GuardSteps", spec := "guardSteps", apart := false }
def GuardStepsSaid : Prop := guardStepsRow.holds Try.pinned (OpenSpec.ofChange guardStepsSpec)

/-- ITS FALSE NEIGHBOUR: 'it returns false'. Refute it at one input. -/
def guardStepsWrong : ChangeSpec := { name := "guardSteps", fn := fun _ => fun
  | [d1, d2, d3, d4] => { results := [.lit (.bool false)], args := [d1, d2, d3, d4] }
  | _ => none }
def GuardStepsWrongFalsely : Prop := guardStepsRow.holds Try.pinned (OpenSpec.ofChange guardStepsWrong)

/-- 'additivelaw50.GuardSets': WHATEVER THE INPUT: true; the input reads as it did. -/
def guardSetsSpec : ChangeSpec := { name := "guardSets", fn := fun _ => fun
  | [d1, d2, d3] => { results := [.lit (.bool true)], args := [d1, d2, d3] }
  | _ => none }
def guardSetsRow : OpenClaim := { program := "ytnmjikaojoaaaaa", sum := "bc4e255881bb114ca971b71e45e4b1d40202215880a7cf08e909818ff907fcba", func := "additive/additivelaw50.GuardSets", spec := "guardSets", apart := false }
def GuardSetsSaid : Prop := guardSetsRow.holds Try.pinned (OpenSpec.ofChange guardSetsSpec)

/-- ITS FALSE NEIGHBOUR: 'it returns false'. Refute it at one input. -/
def guardSetsWrong : ChangeSpec := { name := "guardSets", fn := fun _ => fun
  | [d1, d2, d3] => { results := [.lit (.bool false)], args := [d1, d2, d3] }
  | _ => none }
def GuardSetsWrongFalsely : Prop := guardSetsRow.holds Try.pinned (OpenSpec.ofChange guardSetsWrong)

/-- 'additivelaw50.GuardStays': WHATEVER THE INPUT: true; the input reads as it did. -/
def guardStaysSpec : ChangeSpec := { name := "guardStays", fn := fun _ => fun
  | [d1, d2, d3, d4] => { results := [.lit (.bool true)], args := [d1, d2, d3, d4] }
  | _ => none }
def guardStaysRow : OpenClaim := { program := "ytnmjikaojoaaaaa", sum := "bc4e255881bb114ca971b71e45e4b1d40202215880a7cf08e909818ff907fcba", func := "additive/additivelaw50.GuardStays", spec := "guardStays", apart := false }
def GuardStaysSaid : Prop := guardStaysRow.holds Try.pinned (OpenSpec.ofChange guardStaysSpec)

/-- ITS FALSE NEIGHBOUR: 'it returns false'. Refute it at one input. -/
def guardStaysWrong : ChangeSpec := { name := "guardStays", fn := fun _ => fun
  | [d1, d2, d3, d4] => { results := [.lit (.bool false)], args := [d1, d2, d3, d4] }
  | _ => none }
def GuardStaysWrongFalsely : Prop := guardStaysRow.holds Try.pinned (OpenSpec.ofChange guardStaysWrong)

/-- 'additivelaw50.GuardOff': WHATEVER THE INPUT: true; the input reads as it did. -/
def guardOffSpec : ChangeSpec := { name := "guardOff", fn := fun _ => fun
  | [d1, d2] => { results := [.lit (.bool true)], args := [d1, d2] }
  | _ => none }
def guardOffRow : OpenClaim := { program := "ytnmjikaojoaaaaa", sum := "bc4e255881bb114ca971b71e45e4b1d40202215880a7cf08e909818ff907fcba", func := "additive/additivelaw50.GuardOff", spec := "guardOff", apart := false }
def GuardOffSaid : Prop := guardOffRow.holds Try.pinned (OpenSpec.ofChange guardOffSpec)

/-- ITS FALSE NEIGHBOUR: 'it returns false'. Refute it at one input. -/
def guardOffWrong : ChangeSpec := { name := "guardOff", fn := fun _ => fun
  | [d1, d2] => { results := [.lit (.bool false)], args := [d1, d2] }
  | _ => none }
def GuardOffWrongFalsely : Prop := guardOffRow.holds Try.pinned (OpenSpec.ofChange guardOffWrong)

/-- 'additivelaw50.GuardRises': WHATEVER THE INPUT: true; the input reads as it did. -/
def guardRisesSpec : ChangeSpec := { name := "guardRises", fn := fun _ => fun
  | [d1, d2] => { results := [.lit (.bool true)], args := [d1, d2] }
  | _ => none }
def guardRisesRow : OpenClaim := { program := "ytnmjikaojoaaaaa", sum := "bc4e255881bb114ca971b71e45e4b1d40202215880a7cf08e909818ff907fcba", func := "additive/additivelaw50.GuardRises", spec := "guardRises", apart := false }
def GuardRisesSaid : Prop := guardRisesRow.holds Try.pinned (OpenSpec.ofChange guardRisesSpec)

/-- ITS FALSE NEIGHBOUR: 'it returns false'. Refute it at one input. -/
def guardRisesWrong : ChangeSpec := { name := "guardRises", fn := fun _ => fun
  | [d1, d2] => { results := [.lit (.bool false)], args := [d1, d2] }
  | _ => none }
def GuardRisesWrongFalsely : Prop := guardRisesRow.holds Try.pinned (OpenSpec.ofChange guardRisesWrong)

/-- 'additivelaw50.GuardStops': WHATEVER THE INPUT: true; the input reads as it did. -/
def guardStopsSpec : ChangeSpec := { name := "guardStops", fn := fun _ => fun
  | [d1, d2] => { results := [.lit (.bool true)], args := [d1, d2] }
  | _ => none }
def guardStopsRow : OpenClaim := { program := "ytnmjikaojoaaaaa", sum := "bc4e255881bb114ca971b71e45e4b1d40202215880a7cf08e909818ff907fcba", func := "additive/additivelaw50.GuardStops", spec := "guardStops", apart := false }
def GuardStopsSaid : Prop := guardStopsRow.holds Try.pinned (OpenSpec.ofChange guardStopsSpec)

/-- ITS FALSE NEIGHBOUR: 'it returns false'. Refute it at one input. -/
def guardStopsWrong : ChangeSpec := { name := "guardStops", fn := fun _ => fun
  | [d1, d2] => { results := [.lit (.bool false)], args := [d1, d2] }
  | _ => none }
def GuardStopsWrongFalsely : Prop := guardStopsRow.holds Try.pinned (OpenSpec.ofChange guardStopsWrong)

/- THE SECOND FORM. 'bulk': how many values and letters a reading holds, each counted each time it is reached (what is shared counts as often as it is met; a slice's spare places count too). A statement '..UptoSaid' is the law's where the arguments, and the package variables that the reading takes, are together of bulk at most 1048576: NARROWER than '..Said'. Prove '..Said' where nothing that the law and all that it calls make is longer than what came in: it says more and counts as full. Else prove '..UptoSaid'. A law counts once. -/
mutual
def uptoBulk {H : Type} : DataW H → Nat
  | .lit (.string bytes) => bytes.length + 1
  | .lit _ => 1
  | .nil => 1
  | .ptr d => uptoBulk d + 1
  | .slice elems spare => uptoBulkAll elems + uptoBulkAll spare + 1
  | .agg parts => uptoBulkAll parts + 1
  | .iface _ d => uptoBulk d + 1
  | .map entries => uptoBulkEntries entries + 1
  | .held _ => 1
def uptoBulkAll {H : Type} : List (DataW H) → Nat
  | [] => 0
  | d :: r => uptoBulk d + uptoBulkAll r
def uptoBulkEntries {H : Type} : List (Lit × DataW H) → Nat
  | [] => 0
  | x :: r => uptoBulkEntry x + uptoBulkEntries r
def uptoBulkEntry {H : Type} : Lit × DataW H → Nat
  | (.string bytes, d) => bytes.length + uptoBulk d + 1
  | (_, d) => uptoBulk d + 1
 end
def uptoSmall : (H : Type) → List (DataW H) → Bool := fun _ ds => decide (uptoBulkAll ds ≤ 1048576)
def OpenSpec.upto (s : _root_.Go.ChangeSpec) : _root_.Go.OpenSpec := { _root_.Go.OpenSpec.ofChange s with cond := some uptoSmall }

/-- 'additivelaw43.LimitsSpeeds', WHERE WHAT IT READS IS OF BULK AT MOST 1048576: true; the input reads as it did. -/
def limitsSpeedsUptoRow : OpenClaim := { program := "ytnmjikaojoaaaaa", sum := "bc4e255881bb114ca971b71e45e4b1d40202215880a7cf08e909818ff907fcba", func := "additive/additivelaw43.LimitsSpeeds", spec := "limitsSpeeds", named := ["math/bits.divideError", "math/bits.overflowError"], apart := false, narrowed := true }
def LimitsSpeedsUptoSaid : Prop := limitsSpeedsUptoRow.holds Try.pinned (OpenSpec.upto limitsSpeedsSpec)

/-- 'additivelaw43.LimitsAccels', WHERE WHAT IT READS IS OF BULK AT MOST 1048576: true; the input reads as it did. -/
def limitsAccelsUptoRow : OpenClaim := { program := "ytnmjikaojoaaaaa", sum := "bc4e255881bb114ca971b71e45e4b1d40202215880a7cf08e909818ff907fcba", func := "additive/additivelaw43.LimitsAccels", spec := "limitsAccels", named := ["math/bits.divideError", "math/bits.overflowError"], apart := false, narrowed := true }
def LimitsAccelsUptoSaid : Prop := limitsAccelsUptoRow.holds Try.pinned (OpenSpec.upto limitsAccelsSpec)

/-- 'additivelaw43.LimitsHold', WHERE WHAT IT READS IS OF BULK AT MOST 1048576: true; the input reads as it did. -/
def limitsHoldUptoRow : OpenClaim := { program := "ytnmjikaojoaaaaa", sum := "bc4e255881bb114ca971b71e45e4b1d40202215880a7cf08e909818ff907fcba", func := "additive/additivelaw43.LimitsHold", spec := "limitsHold", named := ["math/bits.divideError", "math/bits.overflowError"], apart := false, narrowed := true }
def LimitsHoldUptoSaid : Prop := limitsHoldUptoRow.holds Try.pinned (OpenSpec.upto limitsHoldSpec)

/-- 'additivelaw43.LimitsScale', WHERE WHAT IT READS IS OF BULK AT MOST 1048576: true; the input reads as it did. -/
def limitsScaleUptoRow : OpenClaim := { program := "ytnmjikaojoaaaaa", sum := "bc4e255881bb114ca971b71e45e4b1d40202215880a7cf08e909818ff907fcba", func := "additive/additivelaw43.LimitsScale", spec := "limitsScale", named := ["math/bits.divideError", "math/bits.overflowError"], apart := false, narrowed := true }
def LimitsScaleUptoSaid : Prop := limitsScaleUptoRow.holds Try.pinned (OpenSpec.upto limitsScaleSpec)

/-- 'additivelaw43.LimitsTurn', WHERE WHAT IT READS IS OF BULK AT MOST 1048576: true; the input reads as it did. -/
def limitsTurnUptoRow : OpenClaim := { program := "ytnmjikaojoaaaaa", sum := "bc4e255881bb114ca971b71e45e4b1d40202215880a7cf08e909818ff907fcba", func := "additive/additivelaw43.LimitsTurn", spec := "limitsTurn", named := ["math/bits.divideError", "math/bits.overflowError"], apart := false, narrowed := true }
def LimitsTurnUptoSaid : Prop := limitsTurnUptoRow.holds Try.pinned (OpenSpec.upto limitsTurnSpec)

/-- 'additivelaw50.GuardSteps', WHERE WHAT IT READS IS OF BULK AT MOST 1048576: true; the input reads as it did. -/
def guardStepsUptoRow : OpenClaim := { program := "ytnmjikaojoaaaaa", sum := "bc4e255881bb114ca971b71e45e4b1d40202215880a7cf08e909818ff907fcba", func := "additive/additivelaw50.GuardSteps", spec := "guardSteps", apart := false, narrowed := true }
def GuardStepsUptoSaid : Prop := guardStepsUptoRow.holds Try.pinned (OpenSpec.upto guardStepsSpec)

/-- 'additivelaw50.GuardSets', WHERE WHAT IT READS IS OF BULK AT MOST 1048576: true; the input reads as it did. -/
def guardSetsUptoRow : OpenClaim := { program := "ytnmjikaojoaaaaa", sum := "bc4e255881bb114ca971b71e45e4b1d40202215880a7cf08e909818ff907fcba", func := "additive/additivelaw50.GuardSets", spec := "guardSets", apart := false, narrowed := true }
def GuardSetsUptoSaid : Prop := guardSetsUptoRow.holds Try.pinned (OpenSpec.upto guardSetsSpec)

/-- 'additivelaw50.GuardStays', WHERE WHAT IT READS IS OF BULK AT MOST 1048576: true; the input reads as it did. -/
def guardStaysUptoRow : OpenClaim := { program := "ytnmjikaojoaaaaa", sum := "bc4e255881bb114ca971b71e45e4b1d40202215880a7cf08e909818ff907fcba", func := "additive/additivelaw50.GuardStays", spec := "guardStays", apart := false, narrowed := true }
def GuardStaysUptoSaid : Prop := guardStaysUptoRow.holds Try.pinned (OpenSpec.upto guardStaysSpec)

/-- 'additivelaw50.GuardOff', WHERE WHAT IT READS IS OF BULK AT MOST 1048576: true; the input reads as it did. -/
def guardOffUptoRow : OpenClaim := { program := "ytnmjikaojoaaaaa", sum := "bc4e255881bb114ca971b71e45e4b1d40202215880a7cf08e909818ff907fcba", func := "additive/additivelaw50.GuardOff", spec := "guardOff", apart := false, narrowed := true }
def GuardOffUptoSaid : Prop := guardOffUptoRow.holds Try.pinned (OpenSpec.upto guardOffSpec)

/-- 'additivelaw50.GuardRises', WHERE WHAT IT READS IS OF BULK AT MOST 1048576: true; the input reads as it did. -/
def guardRisesUptoRow : OpenClaim := { program := "ytnmjikaojoaaaaa", sum := "bc4e255881bb114ca971b71e45e4b1d40202215880a7cf08e909818ff907fcba", func := "additive/additivelaw50.GuardRises", spec := "guardRises", apart := false, narrowed := true }
def GuardRisesUptoSaid : Prop := guardRisesUptoRow.holds Try.pinned (OpenSpec.upto guardRisesSpec)

/-- 'additivelaw50.GuardStops', WHERE WHAT IT READS IS OF BULK AT MOST 1048576: true; the input reads as it did. -/
def guardStopsUptoRow : OpenClaim := { program := "ytnmjikaojoaaaaa", sum := "bc4e255881bb114ca971b71e45e4b1d40202215880a7cf08e909818ff907fcba", func := "additive/additivelaw50.GuardStops", spec := "guardStops", apart := false, narrowed := true }
def GuardStopsUptoSaid : Prop := guardStopsUptoRow.holds Try.pinned (OpenSpec.upto guardStopsSpec)

end Rows
end Go.Proofs.Ytnmjikaojoaaaaa
