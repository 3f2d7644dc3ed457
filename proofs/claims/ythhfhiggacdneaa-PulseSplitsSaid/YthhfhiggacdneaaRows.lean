/-
  No cell of these rows narrows 'for every input' (looked for: loops, veiled, ifaces, maps, wideKeys, modest, calm, conditions, laid).
  DERIVED. THE GIVEN ROWS OF THIS SEAT. 6 by the template 'for every input the law returns true; each argument reads behind the call as it read before'; 0 by the template 'total and deterministic' (their statements: YthhfhiggacdneaaTotals.lean).
  GIVEN WITH THE SEED: the statements are not yours to turn. If you find one false, say at which input.
  Laid BY PROGRAM, IN A SANDBOX (cutbox-rows.mjs): the forced cells as the released guide's own fill.sh prints them over the translation af39fc9cd074ff6b… (all of the seat's roots in one cut). By AI agents, Wed Nov 11 2026. No macro, syntax, notation, axiom, sorry.
-/
import Derived.Test.YthhfhiggacdneaaChecked
import GoSem.Claim
import GoSem.ClaimJoined
import GoSem.ClaimMapViews
import Derived.JoinedTies
import Derived.KernelRfl
namespace Go.Proofs.Ythhfhiggacdneaa
/- THE CELL 'sum', in the pinned program and in every row, IS THE sha256 OF THE DUMP (.gsa) THAT YthhfhiggacdneaaProg.lean LOADS. Nothing in Lean hashes anything: it is a label: what it is worth is what the hold of that sum in a sandbox is worth. -/
noncomputable def Try.pinned : Pinned := { name := "ythhfhiggacdneaa", sum := "af39fc9cd074ff6bf4530afd465f5465ab4104299368ba0694ba62b5f0272e79", checked := Try.checked }
namespace Rows
def none {H : Type} : Left H := { results := [], args := [] }

/-- 'additivelaw46.PulseExact': WHATEVER THE INPUT: true; the input reads as it did. -/
def pulseExactSpec : ChangeSpec := { name := "pulseExact", fn := fun _ => fun
  | [d1, d2] => { results := [.lit (.bool true)], args := [d1, d2] }
  | _ => none }
def pulseExactRow : OpenClaim := { program := "ythhfhiggacdneaa", sum := "af39fc9cd074ff6bf4530afd465f5465ab4104299368ba0694ba62b5f0272e79", func := "additive/additivelaw46.PulseExact", spec := "pulseExact", unfollowed := true, recurses := true, apart := false }
def PulseExactSaid : Prop := pulseExactRow.holds Try.pinned (OpenSpec.ofChange pulseExactSpec)

/-- ITS FALSE NEIGHBOUR: 'it returns false'. Refute it at one input. -/
def pulseExactWrong : ChangeSpec := { name := "pulseExact", fn := fun _ => fun
  | [d1, d2] => { results := [.lit (.bool false)], args := [d1, d2] }
  | _ => none }
def PulseExactWrongFalsely : Prop := pulseExactRow.holds Try.pinned (OpenSpec.ofChange pulseExactWrong)

/-- 'additivelaw46.PulseStarts': WHATEVER THE INPUT: true; the input reads as it did. -/
def pulseStartsSpec : ChangeSpec := { name := "pulseStarts", fn := fun _ => fun
  | [d1, d2] => { results := [.lit (.bool true)], args := [d1, d2] }
  | _ => none }
def pulseStartsRow : OpenClaim := { program := "ythhfhiggacdneaa", sum := "af39fc9cd074ff6bf4530afd465f5465ab4104299368ba0694ba62b5f0272e79", func := "additive/additivelaw46.PulseStarts", spec := "pulseStarts", unfollowed := true, recurses := true, apart := false }
def PulseStartsSaid : Prop := pulseStartsRow.holds Try.pinned (OpenSpec.ofChange pulseStartsSpec)

/-- ITS FALSE NEIGHBOUR: 'it returns false'. Refute it at one input. -/
def pulseStartsWrong : ChangeSpec := { name := "pulseStarts", fn := fun _ => fun
  | [d1, d2] => { results := [.lit (.bool false)], args := [d1, d2] }
  | _ => none }
def PulseStartsWrongFalsely : Prop := pulseStartsRow.holds Try.pinned (OpenSpec.ofChange pulseStartsWrong)

/-- 'additivelaw46.PulseTicks': WHATEVER THE INPUT: true; the input reads as it did. -/
def pulseTicksSpec : ChangeSpec := { name := "pulseTicks", fn := fun _ => fun
  | [d1, d2] => { results := [.lit (.bool true)], args := [d1, d2] }
  | _ => none }
def pulseTicksRow : OpenClaim := { program := "ythhfhiggacdneaa", sum := "af39fc9cd074ff6bf4530afd465f5465ab4104299368ba0694ba62b5f0272e79", func := "additive/additivelaw46.PulseTicks", spec := "pulseTicks", unfollowed := true, recurses := true, apart := false }
def PulseTicksSaid : Prop := pulseTicksRow.holds Try.pinned (OpenSpec.ofChange pulseTicksSpec)

/-- ITS FALSE NEIGHBOUR: 'it returns false'. Refute it at one input. -/
def pulseTicksWrong : ChangeSpec := { name := "pulseTicks", fn := fun _ => fun
  | [d1, d2] => { results := [.lit (.bool false)], args := [d1, d2] }
  | _ => none }
def PulseTicksWrongFalsely : Prop := pulseTicksRow.holds Try.pinned (OpenSpec.ofChange pulseTicksWrong)

/-- 'additivelaw46.PulseMade': WHATEVER THE INPUT: true; the input reads as it did. -/
def pulseMadeSpec : ChangeSpec := { name := "pulseMade", fn := fun _ => fun
  | [d] => { results := [.lit (.bool true)], args := [d] }
  | _ => none }
def pulseMadeRow : OpenClaim := { program := "ythhfhiggacdneaa", sum := "af39fc9cd074ff6bf4530afd465f5465ab4104299368ba0694ba62b5f0272e79", func := "additive/additivelaw46.PulseMade", spec := "pulseMade", unfollowed := true, recurses := true, apart := false }
def PulseMadeSaid : Prop := pulseMadeRow.holds Try.pinned (OpenSpec.ofChange pulseMadeSpec)

/-- ITS FALSE NEIGHBOUR: 'it returns false'. Refute it at one input. -/
def pulseMadeWrong : ChangeSpec := { name := "pulseMade", fn := fun _ => fun
  | [d] => { results := [.lit (.bool false)], args := [d] }
  | _ => none }
def PulseMadeWrongFalsely : Prop := pulseMadeRow.holds Try.pinned (OpenSpec.ofChange pulseMadeWrong)

/-- 'additivelaw46.PulseApart': WHATEVER THE INPUT: true; the input reads as it did. -/
def pulseApartSpec : ChangeSpec := { name := "pulseApart", fn := fun _ => fun
  | [d1, d2] => { results := [.lit (.bool true)], args := [d1, d2] }
  | _ => none }
def pulseApartRow : OpenClaim := { program := "ythhfhiggacdneaa", sum := "af39fc9cd074ff6bf4530afd465f5465ab4104299368ba0694ba62b5f0272e79", func := "additive/additivelaw46.PulseApart", spec := "pulseApart", unfollowed := true, recurses := true, apart := false }
def PulseApartSaid : Prop := pulseApartRow.holds Try.pinned (OpenSpec.ofChange pulseApartSpec)

/-- ITS FALSE NEIGHBOUR: 'it returns false'. Refute it at one input. -/
def pulseApartWrong : ChangeSpec := { name := "pulseApart", fn := fun _ => fun
  | [d1, d2] => { results := [.lit (.bool false)], args := [d1, d2] }
  | _ => none }
def PulseApartWrongFalsely : Prop := pulseApartRow.holds Try.pinned (OpenSpec.ofChange pulseApartWrong)

/-- 'additivelaw46.PulseSplits': WHATEVER THE INPUT: true; the input reads as it did. -/
def pulseSplitsSpec : ChangeSpec := { name := "pulseSplits", fn := fun _ => fun
  | [d1, d2, d3] => { results := [.lit (.bool true)], args := [d1, d2, d3] }
  | _ => none }
def pulseSplitsRow : OpenClaim := { program := "ythhfhiggacdneaa", sum := "af39fc9cd074ff6bf4530afd465f5465ab4104299368ba0694ba62b5f0272e79", func := "additive/additivelaw46.PulseSplits", spec := "pulseSplits", unfollowed := true, recurses := true, apart := false }
def PulseSplitsSaid : Prop := pulseSplitsRow.holds Try.pinned (OpenSpec.ofChange pulseSplitsSpec)

/-- ITS FALSE NEIGHBOUR: 'it returns false'. Refute it at one input. -/
def pulseSplitsWrong : ChangeSpec := { name := "pulseSplits", fn := fun _ => fun
  | [d1, d2, d3] => { results := [.lit (.bool false)], args := [d1, d2, d3] }
  | _ => none }
def PulseSplitsWrongFalsely : Prop := pulseSplitsRow.holds Try.pinned (OpenSpec.ofChange pulseSplitsWrong)

/- THE SECOND FORM. 'bulk': how many values and letters a reading holds, each counted each time it is reached (what is shared counts as often as it is met; a slice's spare places count too). A statement '..UptoSaid' is the law's where the arguments, and the package variables that the reading takes, are together of bulk at most 1048576: NARROWER than '..Said'. Prove '..Said' where nothing that the law and all that it calls make is longer than what came in: it says more and counts as full. Else prove '..UptoSaid'. A law counts once. -/
mutual
def uptoBulk {H : Type} : DataW H → Nat
  | .lit (.string bytes) => bytes.length + 1
  | .lit _ => 1
  | .nil => 1
  | .ptr d => uptoBulk d + 1
  | .slice elems spare => uptoBulkAll elems + uptoBulkAll spare + 1
  | .agg parts => uptoBulkAll parts + 1
  | .iface _ d => uptoBulk d + 1
  | .map entries => uptoBulkEntries entries + 1
  | .held _ => 1
def uptoBulkAll {H : Type} : List (DataW H) → Nat
  | [] => 0
  | d :: r => uptoBulk d + uptoBulkAll r
def uptoBulkEntries {H : Type} : List (Lit × DataW H) → Nat
  | [] => 0
  | x :: r => uptoBulkEntry x + uptoBulkEntries r
def uptoBulkEntry {H : Type} : Lit × DataW H → Nat
  | (.string bytes, d) => bytes.length + uptoBulk d + 1
  | (_, d) => uptoBulk d + 1
 end
def uptoSmall : (H : Type) → List (DataW H) → Bool := fun _ ds => decide (uptoBulkAll ds ≤ 1048576)
def OpenSpec.upto (s : _root_.Go.ChangeSpec) : _root_.Go.OpenSpec := { _root_.Go.OpenSpec.ofChange s with cond := some uptoSmall }

/-- 'additivelaw46.PulseExact', WHERE WHAT IT READS IS OF BULK AT MOST 1048576: true; the input reads as it did. -/
def pulseExactUptoRow : OpenClaim := { program := "ythhfhiggacdneaa", sum := "af39fc9cd074ff6bf4530afd465f5465ab4104299368ba0694ba62b5f0272e79", func := "additive/additivelaw46.PulseExact", spec := "pulseExact", unfollowed := true, recurses := true, apart := false, narrowed := true }
def PulseExactUptoSaid : Prop := pulseExactUptoRow.holds Try.pinned (OpenSpec.upto pulseExactSpec)

/-- 'additivelaw46.PulseStarts', WHERE WHAT IT READS IS OF BULK AT MOST 1048576: true; the input reads as it did. -/
def pulseStartsUptoRow : OpenClaim := { program := "ythhfhiggacdneaa", sum := "af39fc9cd074ff6bf4530afd465f5465ab4104299368ba0694ba62b5f0272e79", func := "additive/additivelaw46.PulseStarts", spec := "pulseStarts", unfollowed := true, recurses := true, apart := false, narrowed := true }
def PulseStartsUptoSaid : Prop := pulseStartsUptoRow.holds Try.pinned (OpenSpec.upto pulseStartsSpec)

/-- 'additivelaw46.PulseTicks', WHERE WHAT IT READS IS OF BULK AT MOST 1048576: true; the input reads as it did. -/
def pulseTicksUptoRow : OpenClaim := { program := "ythhfhiggacdneaa", sum := "af39fc9cd074ff6bf4530afd465f5465ab4104299368ba0694ba62b5f0272e79", func := "additive/additivelaw46.PulseTicks", spec := "pulseTicks", unfollowed := true, recurses := true, apart := false, narrowed := true }
def PulseTicksUptoSaid : Prop := pulseTicksUptoRow.holds Try.pinned (OpenSpec.upto pulseTicksSpec)

/-- 'additivelaw46.PulseMade', WHERE WHAT IT READS IS OF BULK AT MOST 1048576: true; the input reads as it did. -/
def pulseMadeUptoRow : OpenClaim := { program := "ythhfhiggacdneaa", sum := "af39fc9cd074ff6bf4530afd465f5465ab4104299368ba0694ba62b5f0272e79", func := "additive/additivelaw46.PulseMade", spec := "pulseMade", unfollowed := true, recurses := true, apart := false, narrowed := true }
def PulseMadeUptoSaid : Prop := pulseMadeUptoRow.holds Try.pinned (OpenSpec.upto pulseMadeSpec)

/-- 'additivelaw46.PulseApart', WHERE WHAT IT READS IS OF BULK AT MOST 1048576: true; the input reads as it did. -/
def pulseApartUptoRow : OpenClaim := { program := "ythhfhiggacdneaa", sum := "af39fc9cd074ff6bf4530afd465f5465ab4104299368ba0694ba62b5f0272e79", func := "additive/additivelaw46.PulseApart", spec := "pulseApart", unfollowed := true, recurses := true, apart := false, narrowed := true }
def PulseApartUptoSaid : Prop := pulseApartUptoRow.holds Try.pinned (OpenSpec.upto pulseApartSpec)

/-- 'additivelaw46.PulseSplits', WHERE WHAT IT READS IS OF BULK AT MOST 1048576: true; the input reads as it did. -/
def pulseSplitsUptoRow : OpenClaim := { program := "ythhfhiggacdneaa", sum := "af39fc9cd074ff6bf4530afd465f5465ab4104299368ba0694ba62b5f0272e79", func := "additive/additivelaw46.PulseSplits", spec := "pulseSplits", unfollowed := true, recurses := true, apart := false, narrowed := true }
def PulseSplitsUptoSaid : Prop := pulseSplitsUptoRow.holds Try.pinned (OpenSpec.upto pulseSplitsSpec)

end Rows
end Go.Proofs.Ythhfhiggacdneaa
