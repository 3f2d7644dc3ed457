/-
  No cell of these rows narrows 'for every input' (looked for: loops, veiled, ifaces, maps, wideKeys, modest, calm, conditions, laid).
  DERIVED. THE GIVEN ROWS OF THIS SEAT. 12 by the template 'for every input the law returns true; each argument reads behind the call as it read before'; 0 by the template 'total and deterministic' (their statements: YtmaeneogjcfdfaaTotals.lean).
  GIVEN WITH THE SEED: the statements are not yours to turn. If you find one false, say at which input.
  Laid BY PROGRAM, IN A SANDBOX (cutbox-rows.mjs): the forced cells as the released guide's own fill.sh prints them over the translation 2d0bcd35d026c0b0… (all of the seat's roots in one cut). By AI agents, Wed Nov 11 2026. No macro, syntax, notation, axiom, sorry.
-/
import Derived.Test.YtmaeneogjcfdfaaChecked
import GoSem.Claim
import GoSem.ClaimJoined
import GoSem.ClaimMapViews
import Derived.JoinedTies
import Derived.KernelRfl
namespace Go.Proofs.Ytmaeneogjcfdfaa
/- THE CELL 'sum', in the pinned program and in every row, IS THE sha256 OF THE DUMP (.gsa) THAT YtmaeneogjcfdfaaProg.lean LOADS. Nothing in Lean hashes anything: it is a label: what it is worth is what the hold of that sum in a sandbox is worth. -/
noncomputable def Try.pinned : Pinned := { name := "ytmaeneogjcfdfaa", sum := "2d0bcd35d026c0b0d629193a1649968df49ed2eb48b7ed817ae122205d59c66d", checked := Try.checked }
namespace Rows
def none {H : Type} : Left H := { results := [], args := [] }

/-- 'additivelaw45.RampSquares': WHATEVER THE INPUT: true; the input reads as it did. -/
def rampSquaresSpec : ChangeSpec := { name := "rampSquares", fn := fun _ => fun
  | [d1, d2] => { results := [.lit (.bool true)], args := [d1, d2] }
  | _ => none }
def rampSquaresRow : OpenClaim := { program := "ytmaeneogjcfdfaa", sum := "2d0bcd35d026c0b0d629193a1649968df49ed2eb48b7ed817ae122205d59c66d", func := "additive/additivelaw45.RampSquares", spec := "rampSquares", unfollowed := true, recurses := true, apart := false }
def RampSquaresSaid : Prop := rampSquaresRow.holds Try.pinned (OpenSpec.ofChange rampSquaresSpec)

/-- ITS FALSE NEIGHBOUR: 'it returns false'. Refute it at one input. -/
def rampSquaresWrong : ChangeSpec := { name := "rampSquares", fn := fun _ => fun
  | [d1, d2] => { results := [.lit (.bool false)], args := [d1, d2] }
  | _ => none }
def RampSquaresWrongFalsely : Prop := rampSquaresRow.holds Try.pinned (OpenSpec.ofChange rampSquaresWrong)

/-- 'additivelaw45.RampIntervals': WHATEVER THE INPUT: true; the input reads as it did. -/
def rampIntervalsSpec : ChangeSpec := { name := "rampIntervals", fn := fun _ => fun
  | [d1, d2, d3] => { results := [.lit (.bool true)], args := [d1, d2, d3] }
  | _ => none }
def rampIntervalsRow : OpenClaim := { program := "ytmaeneogjcfdfaa", sum := "2d0bcd35d026c0b0d629193a1649968df49ed2eb48b7ed817ae122205d59c66d", func := "additive/additivelaw45.RampIntervals", spec := "rampIntervals", unfollowed := true, recurses := true, apart := false }
def RampIntervalsSaid : Prop := rampIntervalsRow.holds Try.pinned (OpenSpec.ofChange rampIntervalsSpec)

/-- ITS FALSE NEIGHBOUR: 'it returns false'. Refute it at one input. -/
def rampIntervalsWrong : ChangeSpec := { name := "rampIntervals", fn := fun _ => fun
  | [d1, d2, d3] => { results := [.lit (.bool false)], args := [d1, d2, d3] }
  | _ => none }
def RampIntervalsWrongFalsely : Prop := rampIntervalsRow.holds Try.pinned (OpenSpec.ofChange rampIntervalsWrong)

/-- 'additivelaw45.RampDurations': WHATEVER THE INPUT: true; the input reads as it did. -/
def rampDurationsSpec : ChangeSpec := { name := "rampDurations", fn := fun _ => fun
  | [d1, d2] => { results := [.lit (.bool true)], args := [d1, d2] }
  | _ => none }
def rampDurationsRow : OpenClaim := { program := "ytmaeneogjcfdfaa", sum := "2d0bcd35d026c0b0d629193a1649968df49ed2eb48b7ed817ae122205d59c66d", func := "additive/additivelaw45.RampDurations", spec := "rampDurations", unfollowed := true, recurses := true, apart := false }
def RampDurationsSaid : Prop := rampDurationsRow.holds Try.pinned (OpenSpec.ofChange rampDurationsSpec)

/-- ITS FALSE NEIGHBOUR: 'it returns false'. Refute it at one input. -/
def rampDurationsWrong : ChangeSpec := { name := "rampDurations", fn := fun _ => fun
  | [d1, d2] => { results := [.lit (.bool false)], args := [d1, d2] }
  | _ => none }
def RampDurationsWrongFalsely : Prop := rampDurationsRow.holds Try.pinned (OpenSpec.ofChange rampDurationsWrong)

/-- 'additivelaw45.RampBounded': WHATEVER THE INPUT: true; the input reads as it did. -/
def rampBoundedSpec : ChangeSpec := { name := "rampBounded", fn := fun _ => fun
  | [d] => { results := [.lit (.bool true)], args := [d] }
  | _ => none }
def rampBoundedRow : OpenClaim := { program := "ytmaeneogjcfdfaa", sum := "2d0bcd35d026c0b0d629193a1649968df49ed2eb48b7ed817ae122205d59c66d", func := "additive/additivelaw45.RampBounded", spec := "rampBounded", unfollowed := true, recurses := true, apart := false }
def RampBoundedSaid : Prop := rampBoundedRow.holds Try.pinned (OpenSpec.ofChange rampBoundedSpec)

/-- ITS FALSE NEIGHBOUR: 'it returns false'. Refute it at one input. -/
def rampBoundedWrong : ChangeSpec := { name := "rampBounded", fn := fun _ => fun
  | [d] => { results := [.lit (.bool false)], args := [d] }
  | _ => none }
def RampBoundedWrongFalsely : Prop := rampBoundedRow.holds Try.pinned (OpenSpec.ofChange rampBoundedWrong)

/-- 'additivelaw45.RampTurned': WHATEVER THE INPUT: true; the input reads as it did. -/
def rampTurnedSpec : ChangeSpec := { name := "rampTurned", fn := fun _ => fun
  | [d1, d2] => { results := [.lit (.bool true)], args := [d1, d2] }
  | _ => none }
def rampTurnedRow : OpenClaim := { program := "ytmaeneogjcfdfaa", sum := "2d0bcd35d026c0b0d629193a1649968df49ed2eb48b7ed817ae122205d59c66d", func := "additive/additivelaw45.RampTurned", spec := "rampTurned", unfollowed := true, recurses := true, apart := false }
def RampTurnedSaid : Prop := rampTurnedRow.holds Try.pinned (OpenSpec.ofChange rampTurnedSpec)

/-- ITS FALSE NEIGHBOUR: 'it returns false'. Refute it at one input. -/
def rampTurnedWrong : ChangeSpec := { name := "rampTurned", fn := fun _ => fun
  | [d1, d2] => { results := [.lit (.bool false)], args := [d1, d2] }
  | _ => none }
def RampTurnedWrongFalsely : Prop := rampTurnedRow.holds Try.pinned (OpenSpec.ofChange rampTurnedWrong)

/-- 'additivelaw45.RampSlower': WHATEVER THE INPUT: true; the input reads as it did. -/
def rampSlowerSpec : ChangeSpec := { name := "rampSlower", fn := fun _ => fun
  | [d1, d2, d3] => { results := [.lit (.bool true)], args := [d1, d2, d3] }
  | _ => none }
def rampSlowerRow : OpenClaim := { program := "ytmaeneogjcfdfaa", sum := "2d0bcd35d026c0b0d629193a1649968df49ed2eb48b7ed817ae122205d59c66d", func := "additive/additivelaw45.RampSlower", spec := "rampSlower", unfollowed := true, recurses := true, apart := false }
def RampSlowerSaid : Prop := rampSlowerRow.holds Try.pinned (OpenSpec.ofChange rampSlowerSpec)

/-- ITS FALSE NEIGHBOUR: 'it returns false'. Refute it at one input. -/
def rampSlowerWrong : ChangeSpec := { name := "rampSlower", fn := fun _ => fun
  | [d1, d2, d3] => { results := [.lit (.bool false)], args := [d1, d2, d3] }
  | _ => none }
def RampSlowerWrongFalsely : Prop := rampSlowerRow.holds Try.pinned (OpenSpec.ofChange rampSlowerWrong)

/-- 'additivelaw46.PulseExact': WHATEVER THE INPUT: true; the input reads as it did. -/
def pulseExactSpec : ChangeSpec := { name := "pulseExact", fn := fun _ => fun
  | [d1, d2] => { results := [.lit (.bool true)], args := [d1, d2] }
  | _ => none }
def pulseExactRow : OpenClaim := { program := "ytmaeneogjcfdfaa", sum := "2d0bcd35d026c0b0d629193a1649968df49ed2eb48b7ed817ae122205d59c66d", func := "additive/additivelaw46.PulseExact", spec := "pulseExact", unfollowed := true, recurses := true, apart := false }
def PulseExactSaid : Prop := pulseExactRow.holds Try.pinned (OpenSpec.ofChange pulseExactSpec)

/-- ITS FALSE NEIGHBOUR: 'it returns false'. Refute it at one input. -/
def pulseExactWrong : ChangeSpec := { name := "pulseExact", fn := fun _ => fun
  | [d1, d2] => { results := [.lit (.bool false)], args := [d1, d2] }
  | _ => none }
def PulseExactWrongFalsely : Prop := pulseExactRow.holds Try.pinned (OpenSpec.ofChange pulseExactWrong)

/-- 'additivelaw46.PulseStarts': WHATEVER THE INPUT: true; the input reads as it did. -/
def pulseStartsSpec : ChangeSpec := { name := "pulseStarts", fn := fun _ => fun
  | [d1, d2] => { results := [.lit (.bool true)], args := [d1, d2] }
  | _ => none }
def pulseStartsRow : OpenClaim := { program := "ytmaeneogjcfdfaa", sum := "2d0bcd35d026c0b0d629193a1649968df49ed2eb48b7ed817ae122205d59c66d", func := "additive/additivelaw46.PulseStarts", spec := "pulseStarts", unfollowed := true, recurses := true, apart := false }
def PulseStartsSaid : Prop := pulseStartsRow.holds Try.pinned (OpenSpec.ofChange pulseStartsSpec)

/-- ITS FALSE NEIGHBOUR: 'it returns false'. Refute it at one input. -/
def pulseStartsWrong : ChangeSpec := { name := "pulseStarts", fn := fun _ => fun
  | [d1, d2] => { results := [.lit (.bool false)], args := [d1, d2] }
  | _ => none }
def PulseStartsWrongFalsely : Prop := pulseStartsRow.holds Try.pinned (OpenSpec.ofChange pulseStartsWrong)

/-- 'additivelaw46.PulseTicks': WHATEVER THE INPUT: true; the input reads as it did. -/
def pulseTicksSpec : ChangeSpec := { name := "pulseTicks", fn := fun _ => fun
  | [d1, d2] => { results := [.lit (.bool true)], args := [d1, d2] }
  | _ => none }
def pulseTicksRow : OpenClaim := { program := "ytmaeneogjcfdfaa", sum := "2d0bcd35d026c0b0d629193a1649968df49ed2eb48b7ed817ae122205d59c66d", func := "additive/additivelaw46.PulseTicks", spec := "pulseTicks", unfollowed := true, recurses := true, apart := false }
def PulseTicksSaid : Prop := pulseTicksRow.holds Try.pinned (OpenSpec.ofChange pulseTicksSpec)

/-- ITS FALSE NEIGHBOUR: 'it returns false'. Refute it at one input. -/
def pulseTicksWrong : ChangeSpec := { name := "pulseTicks", fn := fun _ => fun
  | [d1, d2] => { results := [.lit (.bool false)], args := [d1, d2] }
  | _ => none }
def PulseTicksWrongFalsely : Prop := pulseTicksRow.holds Try.pinned (OpenSpec.ofChange pulseTicksWrong)

/-- 'additivelaw46.PulseMade': WHATEVER THE INPUT: true; the input reads as it did. -/
def pulseMadeSpec : ChangeSpec := { name := "pulseMade", fn := fun _ => fun
  | [d] => { results := [.lit (.bool true)], args := [d] }
  | _ => none }
def pulseMadeRow : OpenClaim := { program := "ytmaeneogjcfdfaa", sum := "2d0bcd35d026c0b0d629193a1649968df49ed2eb48b7ed817ae122205d59c66d", func := "additive/additivelaw46.PulseMade", spec := "pulseMade", unfollowed := true, recurses := true, apart := false }
def PulseMadeSaid : Prop := pulseMadeRow.holds Try.pinned (OpenSpec.ofChange pulseMadeSpec)

/-- ITS FALSE NEIGHBOUR: 'it returns false'. Refute it at one input. -/
def pulseMadeWrong : ChangeSpec := { name := "pulseMade", fn := fun _ => fun
  | [d] => { results := [.lit (.bool false)], args := [d] }
  | _ => none }
def PulseMadeWrongFalsely : Prop := pulseMadeRow.holds Try.pinned (OpenSpec.ofChange pulseMadeWrong)

/-- 'additivelaw46.PulseApart': WHATEVER THE INPUT: true; the input reads as it did. -/
def pulseApartSpec : ChangeSpec := { name := "pulseApart", fn := fun _ => fun
  | [d1, d2] => { results := [.lit (.bool true)], args := [d1, d2] }
  | _ => none }
def pulseApartRow : OpenClaim := { program := "ytmaeneogjcfdfaa", sum := "2d0bcd35d026c0b0d629193a1649968df49ed2eb48b7ed817ae122205d59c66d", func := "additive/additivelaw46.PulseApart", spec := "pulseApart", unfollowed := true, recurses := true, apart := false }
def PulseApartSaid : Prop := pulseApartRow.holds Try.pinned (OpenSpec.ofChange pulseApartSpec)

/-- ITS FALSE NEIGHBOUR: 'it returns false'. Refute it at one input. -/
def pulseApartWrong : ChangeSpec := { name := "pulseApart", fn := fun _ => fun
  | [d1, d2] => { results := [.lit (.bool false)], args := [d1, d2] }
  | _ => none }
def PulseApartWrongFalsely : Prop := pulseApartRow.holds Try.pinned (OpenSpec.ofChange pulseApartWrong)

/-- 'additivelaw46.PulseSplits': WHATEVER THE INPUT: true; the input reads as it did. -/
def pulseSplitsSpec : ChangeSpec := { name := "pulseSplits", fn := fun _ => fun
  | [d1, d2, d3] => { results := [.lit (.bool true)], args := [d1, d2, d3] }
  | _ => none }
def pulseSplitsRow : OpenClaim := { program := "ytmaeneogjcfdfaa", sum := "2d0bcd35d026c0b0d629193a1649968df49ed2eb48b7ed817ae122205d59c66d", func := "additive/additivelaw46.PulseSplits", spec := "pulseSplits", unfollowed := true, recurses := true, apart := false }
def PulseSplitsSaid : Prop := pulseSplitsRow.holds Try.pinned (OpenSpec.ofChange pulseSplitsSpec)

/-- ITS FALSE NEIGHBOUR: 'it returns false'. Refute it at one input. -/
def pulseSplitsWrong : ChangeSpec := { name := "pulseSplits", fn := fun _ => fun
  | [d1, d2, d3] => { results := [.lit (.bool false)], args := [d1, d2, d3] }
  | _ => none }
def PulseSplitsWrongFalsely : Prop := pulseSplitsRow.holds Try.pinned (OpenSpec.ofChange pulseSplitsWrong)

/- THE SECOND FORM. 'bulk': how many values and letters a reading holds, each counted each time it is reached (what is shared counts as often as it is met; a slice's spare places count too). A statement '..UptoSaid' is the law's where the arguments, and the package variables that the reading takes, are together of bulk at most 1048576: NARROWER than '..Said'. Prove '..Said' where nothing that the law and all that it calls make is longer than what came in: it says more and counts as full. Else prove '..UptoSaid'. A law counts once. -/
mutual
def uptoBulk {H : Type} : DataW H → Nat
  | .lit (.string bytes) => bytes.length + 1
  | .lit _ => 1
  | .nil => 1
  | .ptr d => uptoBulk d + 1
  | .slice elems spare => uptoBulkAll elems + uptoBulkAll spare + 1
  | .agg parts => uptoBulkAll parts + 1
  | .iface _ d => uptoBulk d + 1
  | .map entries => uptoBulkEntries entries + 1
  | .held _ => 1
def uptoBulkAll {H : Type} : List (DataW H) → Nat
  | [] => 0
  | d :: r => uptoBulk d + uptoBulkAll r
def uptoBulkEntries {H : Type} : List (Lit × DataW H) → Nat
  | [] => 0
  | x :: r => uptoBulkEntry x + uptoBulkEntries r
def uptoBulkEntry {H : Type} : Lit × DataW H → Nat
  | (.string bytes, d) => bytes.length + uptoBulk d + 1
  | (_, d) => uptoBulk d + 1
 end
def uptoSmall : (H : Type) → List (DataW H) → Bool := fun _ ds => decide (uptoBulkAll ds ≤ 1048576)
def OpenSpec.upto (s : _root_.Go.ChangeSpec) : _root_.Go.OpenSpec := { _root_.Go.OpenSpec.ofChange s with cond := some uptoSmall }

/-- 'additivelaw45.RampSquares', WHERE WHAT IT READS IS OF BULK AT MOST 1048576: true; the input reads as it did. -/
def rampSquaresUptoRow : OpenClaim := { program := "ytmaeneogjcfdfaa", sum := "2d0bcd35d026c0b0d629193a1649968df49ed2eb48b7ed817ae122205d59c66d", func := "additive/additivelaw45.RampSquares", spec := "rampSquares", unfollowed := true, recurses := true, apart := false, narrowed := true }
def RampSquaresUptoSaid : Prop := rampSquaresUptoRow.holds Try.pinned (OpenSpec.upto rampSquaresSpec)

/-- 'additivelaw45.RampIntervals', WHERE WHAT IT READS IS OF BULK AT MOST 1048576: true; the input reads as it did. -/
def rampIntervalsUptoRow : OpenClaim := { program := "ytmaeneogjcfdfaa", sum := "2d0bcd35d026c0b0d629193a1649968df49ed2eb48b7ed817ae122205d59c66d", func := "additive/additivelaw45.RampIntervals", spec := "rampIntervals", unfollowed := true, recurses := true, apart := false, narrowed := true }
def RampIntervalsUptoSaid : Prop := rampIntervalsUptoRow.holds Try.pinned (OpenSpec.upto rampIntervalsSpec)

/-- 'additivelaw45.RampDurations', WHERE WHAT IT READS IS OF BULK AT MOST 1048576: true; the input reads as it did. -/
def rampDurationsUptoRow : OpenClaim := { program := "ytmaeneogjcfdfaa", sum := "2d0bcd35d026c0b0d629193a1649968df49ed2eb48b7ed817ae122205d59c66d", func := "additive/additivelaw45.RampDurations", spec := "rampDurations", unfollowed := true, recurses := true, apart := false, narrowed := true }
def RampDurationsUptoSaid : Prop := rampDurationsUptoRow.holds Try.pinned (OpenSpec.upto rampDurationsSpec)

/-- 'additivelaw45.RampBounded', WHERE WHAT IT READS IS OF BULK AT MOST 1048576: true; the input reads as it did. -/
def rampBoundedUptoRow : OpenClaim := { program := "ytmaeneogjcfdfaa", sum := "2d0bcd35d026c0b0d629193a1649968df49ed2eb48b7ed817ae122205d59c66d", func := "additive/additivelaw45.RampBounded", spec := "rampBounded", unfollowed := true, recurses := true, apart := false, narrowed := true }
def RampBoundedUptoSaid : Prop := rampBoundedUptoRow.holds Try.pinned (OpenSpec.upto rampBoundedSpec)

/-- 'additivelaw45.RampTurned', WHERE WHAT IT READS IS OF BULK AT MOST 1048576: true; the input reads as it did. -/
def rampTurnedUptoRow : OpenClaim := { program := "ytmaeneogjcfdfaa", sum := "2d0bcd35d026c0b0d629193a1649968df49ed2eb48b7ed817ae122205d59c66d", func := "additive/additivelaw45.RampTurned", spec := "rampTurned", unfollowed := true, recurses := true, apart := false, narrowed := true }
def RampTurnedUptoSaid : Prop := rampTurnedUptoRow.holds Try.pinned (OpenSpec.upto rampTurnedSpec)

/-- 'additivelaw45.RampSlower', WHERE WHAT IT READS IS OF BULK AT MOST 1048576: true; the input reads as it did. -/
def rampSlowerUptoRow : OpenClaim := { program := "ytmaeneogjcfdfaa", sum := "2d0bcd35d026c0b0d629193a1649968df49ed2eb48b7ed817ae122205d59c66d", func := "additive/additivelaw45.RampSlower", spec := "rampSlower", unfollowed := true, recurses := true, apart := false, narrowed := true }
def RampSlowerUptoSaid : Prop := rampSlowerUptoRow.holds Try.pinned (OpenSpec.upto rampSlowerSpec)

/-- 'additivelaw46.PulseExact', WHERE WHAT IT READS IS OF BULK AT MOST 1048576: true; the input reads as it did. -/
def pulseExactUptoRow : OpenClaim := { program := "ytmaeneogjcfdfaa", sum := "2d0bcd35d026c0b0d629193a1649968df49ed2eb48b7ed817ae122205d59c66d", func := "additive/additivelaw46.PulseExact", spec := "pulseExact", unfollowed := true, recurses := true, apart := false, narrowed := true }
def PulseExactUptoSaid : Prop := pulseExactUptoRow.holds Try.pinned (OpenSpec.upto pulseExactSpec)

/-- 'additivelaw46.PulseStarts', WHERE WHAT IT READS IS OF BULK AT MOST 1048576: true; the input reads as it did. -/
def pulseStartsUptoRow : OpenClaim := { program := "ytmaeneogjcfdfaa", sum := "2d0bcd35d026c0b0d629193a1649968df49ed2eb48b7ed817ae122205d59c66d", func := "additive/additivelaw46.PulseStarts", spec := "pulseStarts", unfollowed := true, recurses := true, apart := false, narrowed := true }
def PulseStartsUptoSaid : Prop := pulseStartsUptoRow.holds Try.pinned (OpenSpec.upto pulseStartsSpec)

/-- 'additivelaw46.PulseTicks', WHERE WHAT IT READS IS OF BULK AT MOST 1048576: true; the input reads as it did. -/
def pulseTicksUptoRow : OpenClaim := { program := "ytmaeneogjcfdfaa", sum := "2d0bcd35d026c0b0d629193a1649968df49ed2eb48b7ed817ae122205d59c66d", func := "additive/additivelaw46.PulseTicks", spec := "pulseTicks", unfollowed := true, recurses := true, apart := false, narrowed := true }
def PulseTicksUptoSaid : Prop := pulseTicksUptoRow.holds Try.pinned (OpenSpec.upto pulseTicksSpec)

/-- 'additivelaw46.PulseMade', WHERE WHAT IT READS IS OF BULK AT MOST 1048576: true; the input reads as it did. -/
def pulseMadeUptoRow : OpenClaim := { program := "ytmaeneogjcfdfaa", sum := "2d0bcd35d026c0b0d629193a1649968df49ed2eb48b7ed817ae122205d59c66d", func := "additive/additivelaw46.PulseMade", spec := "pulseMade", unfollowed := true, recurses := true, apart := false, narrowed := true }
def PulseMadeUptoSaid : Prop := pulseMadeUptoRow.holds Try.pinned (OpenSpec.upto pulseMadeSpec)

/-- 'additivelaw46.PulseApart', WHERE WHAT IT READS IS OF BULK AT MOST 1048576: true; the input reads as it did. -/
def pulseApartUptoRow : OpenClaim := { program := "ytmaeneogjcfdfaa", sum := "2d0bcd35d026c0b0d629193a1649968df49ed2eb48b7ed817ae122205d59c66d", func := "additive/additivelaw46.PulseApart", spec := "pulseApart", unfollowed := true, recurses := true, apart := false, narrowed := true }
def PulseApartUptoSaid : Prop := pulseApartUptoRow.holds Try.pinned (OpenSpec.upto pulseApartSpec)

/-- 'additivelaw46.PulseSplits', WHERE WHAT IT READS IS OF BULK AT MOST 1048576: true; the input reads as it did. -/
def pulseSplitsUptoRow : OpenClaim := { program := "ytmaeneogjcfdfaa", sum := "2d0bcd35d026c0b0d629193a1649968df49ed2eb48b7ed817ae122205d59c66d", func := "additive/additivelaw46.PulseSplits", spec := "pulseSplits", unfollowed := true, recurses := true, apart := false, narrowed := true }
def PulseSplitsUptoSaid : Prop := pulseSplitsUptoRow.holds Try.pinned (OpenSpec.upto pulseSplitsSpec)

end Rows
end Go.Proofs.Ytmaeneogjcfdfaa
