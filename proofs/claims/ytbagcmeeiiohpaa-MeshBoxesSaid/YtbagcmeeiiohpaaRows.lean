/-
  No cell of these rows narrows 'for every input' (looked for: loops, veiled, ifaces, maps, wideKeys, modest, calm, conditions, laid).
  DERIVED. THE GIVEN ROWS OF THIS SEAT. 4 by the template 'for every input the law returns true; each argument reads behind the call as it read before'; 0 by the template 'total and deterministic' (their statements: YtbagcmeeiiohpaaTotals.lean).
  GIVEN WITH THE SEED: the statements are not yours to turn. If you find one false, say at which input.
  Laid BY PROGRAM, IN A SANDBOX (cutbox-rows.mjs): the forced cells as the released guide's own fill.sh prints them over the translation c064186dd69d4845… (all of the seat's roots in one cut). By AI agents, Wed Nov 11 2026. No macro, syntax, notation, axiom, sorry.
-/
import Derived.Test.YtbagcmeeiiohpaaChecked
import GoSem.Claim
import GoSem.ClaimJoined
import GoSem.ClaimMapViews
import Derived.JoinedTies
import Derived.KernelRfl
namespace Go.Proofs.Ytbagcmeeiiohpaa
/- THE CELL 'sum', in the pinned program and in every row, IS THE sha256 OF THE DUMP (.gsa) THAT YtbagcmeeiiohpaaProg.lean LOADS. Nothing in Lean hashes anything: it is a label: what it is worth is what the hold of that sum in a sandbox is worth. -/
noncomputable def Try.pinned : Pinned := { name := "ytbagcmeeiiohpaa", sum := "c064186dd69d484570e37f595e2b3e9fb793f6ee870182aab60a44ac9d4d5ac8", checked := Try.checked }
namespace Rows
def none {H : Type} : Left H := { results := [], args := [] }

/-- 'additivelaw07.MeshBoxes': WHATEVER THE INPUT: true; the input reads as it did. -/
def meshBoxesSpec : ChangeSpec := { name := "meshBoxes", fn := fun _ => fun
  | [d] => { results := [.lit (.bool true)], args := [d] }
  | _ => none }
def meshBoxesRow : OpenClaim := { program := "ytbagcmeeiiohpaa", sum := "c064186dd69d484570e37f595e2b3e9fb793f6ee870182aab60a44ac9d4d5ac8", func := "additive/additivelaw07.MeshBoxes", spec := "meshBoxes", unfollowed := true, recurses := true, plainKeys := false, apart := false }
def MeshBoxesSaid : Prop := meshBoxesRow.holds Try.pinned (OpenSpec.ofChange meshBoxesSpec)

/-- ITS FALSE NEIGHBOUR: 'it returns false'. Refute it at one input. -/
def meshBoxesWrong : ChangeSpec := { name := "meshBoxes", fn := fun _ => fun
  | [d] => { results := [.lit (.bool false)], args := [d] }
  | _ => none }
def MeshBoxesWrongFalsely : Prop := meshBoxesRow.holds Try.pinned (OpenSpec.ofChange meshBoxesWrong)

/-- 'additivelaw07.MeshLimits': WHATEVER THE INPUT: true; the input reads as it did. -/
def meshLimitsSpec : ChangeSpec := { name := "meshLimits", fn := fun _ => fun
  | [d1, d2] => { results := [.lit (.bool true)], args := [d1, d2] }
  | _ => none }
def meshLimitsRow : OpenClaim := { program := "ytbagcmeeiiohpaa", sum := "c064186dd69d484570e37f595e2b3e9fb793f6ee870182aab60a44ac9d4d5ac8", func := "additive/additivelaw07.MeshLimits", spec := "meshLimits", unfollowed := true, recurses := true, plainKeys := false, apart := false }
def MeshLimitsSaid : Prop := meshLimitsRow.holds Try.pinned (OpenSpec.ofChange meshLimitsSpec)

/-- ITS FALSE NEIGHBOUR: 'it returns false'. Refute it at one input. -/
def meshLimitsWrong : ChangeSpec := { name := "meshLimits", fn := fun _ => fun
  | [d1, d2] => { results := [.lit (.bool false)], args := [d1, d2] }
  | _ => none }
def MeshLimitsWrongFalsely : Prop := meshLimitsRow.holds Try.pinned (OpenSpec.ofChange meshLimitsWrong)

/-- 'additivelaw15.SectionCuts': WHATEVER THE INPUT: true; the input reads as it did. -/
def sectionCutsSpec : ChangeSpec := { name := "sectionCuts", fn := fun _ => fun
  | [d1, d2] => { results := [.lit (.bool true)], args := [d1, d2] }
  | _ => none }
def sectionCutsRow : OpenClaim := { program := "ytbagcmeeiiohpaa", sum := "c064186dd69d484570e37f595e2b3e9fb793f6ee870182aab60a44ac9d4d5ac8", func := "additive/additivelaw15.SectionCuts", spec := "sectionCuts", plainKeys := false, apart := false }
def SectionCutsSaid : Prop := sectionCutsRow.holds Try.pinned (OpenSpec.ofChange sectionCutsSpec)

/-- ITS FALSE NEIGHBOUR: 'it returns false'. Refute it at one input. -/
def sectionCutsWrong : ChangeSpec := { name := "sectionCuts", fn := fun _ => fun
  | [d1, d2] => { results := [.lit (.bool false)], args := [d1, d2] }
  | _ => none }
def SectionCutsWrongFalsely : Prop := sectionCutsRow.holds Try.pinned (OpenSpec.ofChange sectionCutsWrong)

/-- 'additivelaw15.SectionBalanced': WHATEVER THE INPUT: true; the input reads as it did. -/
def sectionBalancedSpec : ChangeSpec := { name := "sectionBalanced", fn := fun _ => fun
  | [d1, d2] => { results := [.lit (.bool true)], args := [d1, d2] }
  | _ => none }
def sectionBalancedRow : OpenClaim := { program := "ytbagcmeeiiohpaa", sum := "c064186dd69d484570e37f595e2b3e9fb793f6ee870182aab60a44ac9d4d5ac8", func := "additive/additivelaw15.SectionBalanced", spec := "sectionBalanced", unfollowed := true, recurses := true, plainKeys := false, apart := false }
def SectionBalancedSaid : Prop := sectionBalancedRow.holds Try.pinned (OpenSpec.ofChange sectionBalancedSpec)

/-- ITS FALSE NEIGHBOUR: 'it returns false'. Refute it at one input. -/
def sectionBalancedWrong : ChangeSpec := { name := "sectionBalanced", fn := fun _ => fun
  | [d1, d2] => { results := [.lit (.bool false)], args := [d1, d2] }
  | _ => none }
def SectionBalancedWrongFalsely : Prop := sectionBalancedRow.holds Try.pinned (OpenSpec.ofChange sectionBalancedWrong)

/- THE SECOND FORM. 'bulk': how many values and letters a reading holds, each counted each time it is reached (what is shared counts as often as it is met; a slice's spare places count too). A statement '..UptoSaid' is the law's where the arguments, and the package variables that the reading takes, are together of bulk at most 1048576: NARROWER than '..Said'. Prove '..Said' where nothing that the law and all that it calls make is longer than what came in: it says more and counts as full. Else prove '..UptoSaid'. A law counts once. -/
mutual
def uptoBulk {H : Type} : DataW H → Nat
  | .lit (.string bytes) => bytes.length + 1
  | .lit _ => 1
  | .nil => 1
  | .ptr d => uptoBulk d + 1
  | .slice elems spare => uptoBulkAll elems + uptoBulkAll spare + 1
  | .agg parts => uptoBulkAll parts + 1
  | .iface _ d => uptoBulk d + 1
  | .map entries => uptoBulkEntries entries + 1
  | .held _ => 1
def uptoBulkAll {H : Type} : List (DataW H) → Nat
  | [] => 0
  | d :: r => uptoBulk d + uptoBulkAll r
def uptoBulkEntries {H : Type} : List (Lit × DataW H) → Nat
  | [] => 0
  | x :: r => uptoBulkEntry x + uptoBulkEntries r
def uptoBulkEntry {H : Type} : Lit × DataW H → Nat
  | (.string bytes, d) => bytes.length + uptoBulk d + 1
  | (_, d) => uptoBulk d + 1
 end
def uptoSmall : (H : Type) → List (DataW H) → Bool := fun _ ds => decide (uptoBulkAll ds ≤ 1048576)
def OpenSpec.upto (s : _root_.Go.ChangeSpec) : _root_.Go.OpenSpec := { _root_.Go.OpenSpec.ofChange s with cond := some uptoSmall }

/-- 'additivelaw07.MeshBoxes', WHERE WHAT IT READS IS OF BULK AT MOST 1048576: true; the input reads as it did. -/
def meshBoxesUptoRow : OpenClaim := { program := "ytbagcmeeiiohpaa", sum := "c064186dd69d484570e37f595e2b3e9fb793f6ee870182aab60a44ac9d4d5ac8", func := "additive/additivelaw07.MeshBoxes", spec := "meshBoxes", unfollowed := true, recurses := true, plainKeys := false, apart := false, narrowed := true }
def MeshBoxesUptoSaid : Prop := meshBoxesUptoRow.holds Try.pinned (OpenSpec.upto meshBoxesSpec)

/-- 'additivelaw07.MeshLimits', WHERE WHAT IT READS IS OF BULK AT MOST 1048576: true; the input reads as it did. -/
def meshLimitsUptoRow : OpenClaim := { program := "ytbagcmeeiiohpaa", sum := "c064186dd69d484570e37f595e2b3e9fb793f6ee870182aab60a44ac9d4d5ac8", func := "additive/additivelaw07.MeshLimits", spec := "meshLimits", unfollowed := true, recurses := true, plainKeys := false, apart := false, narrowed := true }
def MeshLimitsUptoSaid : Prop := meshLimitsUptoRow.holds Try.pinned (OpenSpec.upto meshLimitsSpec)

/-- 'additivelaw15.SectionCuts', WHERE WHAT IT READS IS OF BULK AT MOST 1048576: true; the input reads as it did. -/
def sectionCutsUptoRow : OpenClaim := { program := "ytbagcmeeiiohpaa", sum := "c064186dd69d484570e37f595e2b3e9fb793f6ee870182aab60a44ac9d4d5ac8", func := "additive/additivelaw15.SectionCuts", spec := "sectionCuts", plainKeys := false, apart := false, narrowed := true }
def SectionCutsUptoSaid : Prop := sectionCutsUptoRow.holds Try.pinned (OpenSpec.upto sectionCutsSpec)

/-- 'additivelaw15.SectionBalanced', WHERE WHAT IT READS IS OF BULK AT MOST 1048576: true; the input reads as it did. -/
def sectionBalancedUptoRow : OpenClaim := { program := "ytbagcmeeiiohpaa", sum := "c064186dd69d484570e37f595e2b3e9fb793f6ee870182aab60a44ac9d4d5ac8", func := "additive/additivelaw15.SectionBalanced", spec := "sectionBalanced", unfollowed := true, recurses := true, plainKeys := false, apart := false, narrowed := true }
def SectionBalancedUptoSaid : Prop := sectionBalancedUptoRow.holds Try.pinned (OpenSpec.upto sectionBalancedSpec)

end Rows
end Go.Proofs.Ytbagcmeeiiohpaa
