/-
  No cell of these rows narrows 'for every input' (looked for: loops, veiled, ifaces, maps, wideKeys, modest, calm, conditions, laid).
  DERIVED. THE GIVEN ROWS OF THIS SEAT. 12 by the template 'for every input the law returns true; each argument reads behind the call as it read before'; 0 by the template 'total and deterministic' (their statements: YtnljefglidhnjaaTotals.lean).
  GIVEN WITH THE SEED: the statements are not yours to turn. If you find one false, say at which input.
  Laid BY PROGRAM, IN A SANDBOX (cutbox-rows.mjs): the forced cells as the released guide's own fill.sh prints them over the translation 62396f67557b84dd… (all of the seat's roots in one cut). By AI agents, Wed Nov 11 2026. No macro, syntax, notation, axiom, sorry.
-/
import Derived.Test.YtnljefglidhnjaaChecked
import GoSem.Claim
import GoSem.ClaimJoined
import GoSem.ClaimMapViews
import Derived.JoinedTies
import Derived.KernelRfl
namespace Go.Proofs.Ytnljefglidhnjaa
/- THE CELL 'sum', in the pinned program and in every row, IS THE sha256 OF THE DUMP (.gsa) THAT YtnljefglidhnjaaProg.lean LOADS. Nothing in Lean hashes anything: it is a label: what it is worth is what the hold of that sum in a sandbox is worth. -/
noncomputable def Try.pinned : Pinned := { name := "ytnljefglidhnjaa", sum := "62396f67557b84dd7443bc45ae4753413a6a6f2b1872515340b5f5175ca57e0c", checked := Try.checked }
namespace Rows
def none {H : Type} : Left H := { results := [], args := [] }

/-- 'additivelaw42.DdaCounts': WHATEVER THE INPUT: true; the input reads as it did. -/
def ddaCountsSpec : ChangeSpec := { name := "ddaCounts", fn := fun _ => fun
  | [d] => { results := [.lit (.bool true)], args := [d] }
  | _ => none }
def ddaCountsRow : OpenClaim := { program := "ytnljefglidhnjaa", sum := "62396f67557b84dd7443bc45ae4753413a6a6f2b1872515340b5f5175ca57e0c", func := "additive/additivelaw42.DdaCounts", spec := "ddaCounts", apart := false }
def DdaCountsSaid : Prop := ddaCountsRow.holds Try.pinned (OpenSpec.ofChange ddaCountsSpec)

/-- ITS FALSE NEIGHBOUR: 'it returns false'. Refute it at one input. -/
def ddaCountsWrong : ChangeSpec := { name := "ddaCounts", fn := fun _ => fun
  | [d] => { results := [.lit (.bool false)], args := [d] }
  | _ => none }
def DdaCountsWrongFalsely : Prop := ddaCountsRow.holds Try.pinned (OpenSpec.ofChange ddaCountsWrong)

/-- 'additivelaw42.DdaAt': WHATEVER THE INPUT: true; the input reads as it did. -/
def ddaAtSpec : ChangeSpec := { name := "ddaAt", fn := fun _ => fun
  | [d1, d2] => { results := [.lit (.bool true)], args := [d1, d2] }
  | _ => none }
def ddaAtRow : OpenClaim := { program := "ytnljefglidhnjaa", sum := "62396f67557b84dd7443bc45ae4753413a6a6f2b1872515340b5f5175ca57e0c", func := "additive/additivelaw42.DdaAt", spec := "ddaAt", apart := false }
def DdaAtSaid : Prop := ddaAtRow.holds Try.pinned (OpenSpec.ofChange ddaAtSpec)

/-- ITS FALSE NEIGHBOUR: 'it returns false'. Refute it at one input. -/
def ddaAtWrong : ChangeSpec := { name := "ddaAt", fn := fun _ => fun
  | [d1, d2] => { results := [.lit (.bool false)], args := [d1, d2] }
  | _ => none }
def DdaAtWrongFalsely : Prop := ddaAtRow.holds Try.pinned (OpenSpec.ofChange ddaAtWrong)

/-- 'additivelaw42.DdaPulse': WHATEVER THE INPUT: true; the input reads as it did. -/
def ddaPulseSpec : ChangeSpec := { name := "ddaPulse", fn := fun _ => fun
  | [d1, d2] => { results := [.lit (.bool true)], args := [d1, d2] }
  | _ => none }
def ddaPulseRow : OpenClaim := { program := "ytnljefglidhnjaa", sum := "62396f67557b84dd7443bc45ae4753413a6a6f2b1872515340b5f5175ca57e0c", func := "additive/additivelaw42.DdaPulse", spec := "ddaPulse", apart := false }
def DdaPulseSaid : Prop := ddaPulseRow.holds Try.pinned (OpenSpec.ofChange ddaPulseSpec)

/-- ITS FALSE NEIGHBOUR: 'it returns false'. Refute it at one input. -/
def ddaPulseWrong : ChangeSpec := { name := "ddaPulse", fn := fun _ => fun
  | [d1, d2] => { results := [.lit (.bool false)], args := [d1, d2] }
  | _ => none }
def DdaPulseWrongFalsely : Prop := ddaPulseRow.holds Try.pinned (OpenSpec.ofChange ddaPulseWrong)

/-- 'additivelaw42.DdaExact': WHATEVER THE INPUT: true; the input reads as it did. -/
def ddaExactSpec : ChangeSpec := { name := "ddaExact", fn := fun _ => fun
  | [d] => { results := [.lit (.bool true)], args := [d] }
  | _ => none }
def ddaExactRow : OpenClaim := { program := "ytnljefglidhnjaa", sum := "62396f67557b84dd7443bc45ae4753413a6a6f2b1872515340b5f5175ca57e0c", func := "additive/additivelaw42.DdaExact", spec := "ddaExact", apart := false }
def DdaExactSaid : Prop := ddaExactRow.holds Try.pinned (OpenSpec.ofChange ddaExactSpec)

/-- ITS FALSE NEIGHBOUR: 'it returns false'. Refute it at one input. -/
def ddaExactWrong : ChangeSpec := { name := "ddaExact", fn := fun _ => fun
  | [d] => { results := [.lit (.bool false)], args := [d] }
  | _ => none }
def DdaExactWrongFalsely : Prop := ddaExactRow.holds Try.pinned (OpenSpec.ofChange ddaExactWrong)

/-- 'additivelaw42.DdaNear': WHATEVER THE INPUT: true; the input reads as it did. -/
def ddaNearSpec : ChangeSpec := { name := "ddaNear", fn := fun _ => fun
  | [d1, d2] => { results := [.lit (.bool true)], args := [d1, d2] }
  | _ => none }
def ddaNearRow : OpenClaim := { program := "ytnljefglidhnjaa", sum := "62396f67557b84dd7443bc45ae4753413a6a6f2b1872515340b5f5175ca57e0c", func := "additive/additivelaw42.DdaNear", spec := "ddaNear", apart := false }
def DdaNearSaid : Prop := ddaNearRow.holds Try.pinned (OpenSpec.ofChange ddaNearSpec)

/-- ITS FALSE NEIGHBOUR: 'it returns false'. Refute it at one input. -/
def ddaNearWrong : ChangeSpec := { name := "ddaNear", fn := fun _ => fun
  | [d1, d2] => { results := [.lit (.bool false)], args := [d1, d2] }
  | _ => none }
def DdaNearWrongFalsely : Prop := ddaNearRow.holds Try.pinned (OpenSpec.ofChange ddaNearWrong)

/-- 'additivelaw42.DdaSigns': WHATEVER THE INPUT: true; the input reads as it did. -/
def ddaSignsSpec : ChangeSpec := { name := "ddaSigns", fn := fun _ => fun
  | [d1, d2] => { results := [.lit (.bool true)], args := [d1, d2] }
  | _ => none }
def ddaSignsRow : OpenClaim := { program := "ytnljefglidhnjaa", sum := "62396f67557b84dd7443bc45ae4753413a6a6f2b1872515340b5f5175ca57e0c", func := "additive/additivelaw42.DdaSigns", spec := "ddaSigns", apart := false }
def DdaSignsSaid : Prop := ddaSignsRow.holds Try.pinned (OpenSpec.ofChange ddaSignsSpec)

/-- ITS FALSE NEIGHBOUR: 'it returns false'. Refute it at one input. -/
def ddaSignsWrong : ChangeSpec := { name := "ddaSigns", fn := fun _ => fun
  | [d1, d2] => { results := [.lit (.bool false)], args := [d1, d2] }
  | _ => none }
def DdaSignsWrongFalsely : Prop := ddaSignsRow.holds Try.pinned (OpenSpec.ofChange ddaSignsWrong)

/-- 'additivelaw49.ControlValid': WHATEVER THE INPUT: true; the input reads as it did. -/
def controlValidSpec : ChangeSpec := { name := "controlValid", fn := fun _ => fun
  | [d1, d2] => { results := [.lit (.bool true)], args := [d1, d2] }
  | _ => none }
def controlValidRow : OpenClaim := { program := "ytnljefglidhnjaa", sum := "62396f67557b84dd7443bc45ae4753413a6a6f2b1872515340b5f5175ca57e0c", func := "additive/additivelaw49.ControlValid", spec := "controlValid", apart := false }
def ControlValidSaid : Prop := controlValidRow.holds Try.pinned (OpenSpec.ofChange controlValidSpec)

/-- ITS FALSE NEIGHBOUR: 'it returns false'. Refute it at one input. -/
def controlValidWrong : ChangeSpec := { name := "controlValid", fn := fun _ => fun
  | [d1, d2] => { results := [.lit (.bool false)], args := [d1, d2] }
  | _ => none }
def ControlValidWrongFalsely : Prop := controlValidRow.holds Try.pinned (OpenSpec.ofChange controlValidWrong)

/-- 'additivelaw49.ControlSteps': WHATEVER THE INPUT: true; the input reads as it did. -/
def controlStepsSpec : ChangeSpec := { name := "controlSteps", fn := fun _ => fun
  | [d1, d2] => { results := [.lit (.bool true)], args := [d1, d2] }
  | _ => none }
def controlStepsRow : OpenClaim := { program := "ytnljefglidhnjaa", sum := "62396f67557b84dd7443bc45ae4753413a6a6f2b1872515340b5f5175ca57e0c", func := "additive/additivelaw49.ControlSteps", spec := "controlSteps", apart := false }
def ControlStepsSaid : Prop := controlStepsRow.holds Try.pinned (OpenSpec.ofChange controlStepsSpec)

/-- ITS FALSE NEIGHBOUR: 'it returns false'. Refute it at one input. -/
def controlStepsWrong : ChangeSpec := { name := "controlSteps", fn := fun _ => fun
  | [d1, d2] => { results := [.lit (.bool false)], args := [d1, d2] }
  | _ => none }
def ControlStepsWrongFalsely : Prop := controlStepsRow.holds Try.pinned (OpenSpec.ofChange controlStepsWrong)

/-- 'additivelaw49.ControlRuns': WHATEVER THE INPUT: true; the input reads as it did. -/
def controlRunsSpec : ChangeSpec := { name := "controlRuns", fn := fun _ => fun
  | [d1, d2] => { results := [.lit (.bool true)], args := [d1, d2] }
  | _ => none }
def controlRunsRow : OpenClaim := { program := "ytnljefglidhnjaa", sum := "62396f67557b84dd7443bc45ae4753413a6a6f2b1872515340b5f5175ca57e0c", func := "additive/additivelaw49.ControlRuns", spec := "controlRuns", apart := false }
def ControlRunsSaid : Prop := controlRunsRow.holds Try.pinned (OpenSpec.ofChange controlRunsSpec)

/-- ITS FALSE NEIGHBOUR: 'it returns false'. Refute it at one input. -/
def controlRunsWrong : ChangeSpec := { name := "controlRuns", fn := fun _ => fun
  | [d1, d2] => { results := [.lit (.bool false)], args := [d1, d2] }
  | _ => none }
def ControlRunsWrongFalsely : Prop := controlRunsRow.holds Try.pinned (OpenSpec.ofChange controlRunsWrong)

/-- 'additivelaw49.ControlBounded': WHATEVER THE INPUT: true; the input reads as it did. -/
def controlBoundedSpec : ChangeSpec := { name := "controlBounded", fn := fun _ => fun
  | [d1, d2] => { results := [.lit (.bool true)], args := [d1, d2] }
  | _ => none }
def controlBoundedRow : OpenClaim := { program := "ytnljefglidhnjaa", sum := "62396f67557b84dd7443bc45ae4753413a6a6f2b1872515340b5f5175ca57e0c", func := "additive/additivelaw49.ControlBounded", spec := "controlBounded", apart := false }
def ControlBoundedSaid : Prop := controlBoundedRow.holds Try.pinned (OpenSpec.ofChange controlBoundedSpec)

/-- ITS FALSE NEIGHBOUR: 'it returns false'. Refute it at one input. -/
def controlBoundedWrong : ChangeSpec := { name := "controlBounded", fn := fun _ => fun
  | [d1, d2] => { results := [.lit (.bool false)], args := [d1, d2] }
  | _ => none }
def ControlBoundedWrongFalsely : Prop := controlBoundedRow.holds Try.pinned (OpenSpec.ofChange controlBoundedWrong)

/-- 'additivelaw49.ControlMonotone': WHATEVER THE INPUT: true; the input reads as it did. -/
def controlMonotoneSpec : ChangeSpec := { name := "controlMonotone", fn := fun _ => fun
  | [d1, d2, d3] => { results := [.lit (.bool true)], args := [d1, d2, d3] }
  | _ => none }
def controlMonotoneRow : OpenClaim := { program := "ytnljefglidhnjaa", sum := "62396f67557b84dd7443bc45ae4753413a6a6f2b1872515340b5f5175ca57e0c", func := "additive/additivelaw49.ControlMonotone", spec := "controlMonotone", apart := false }
def ControlMonotoneSaid : Prop := controlMonotoneRow.holds Try.pinned (OpenSpec.ofChange controlMonotoneSpec)

/-- ITS FALSE NEIGHBOUR: 'it returns false'. Refute it at one input. -/
def controlMonotoneWrong : ChangeSpec := { name := "controlMonotone", fn := fun _ => fun
  | [d1, d2, d3] => { results := [.lit (.bool false)], args := [d1, d2, d3] }
  | _ => none }
def ControlMonotoneWrongFalsely : Prop := controlMonotoneRow.holds Try.pinned (OpenSpec.ofChange controlMonotoneWrong)

/-- 'additivelaw49.ControlAims': WHATEVER THE INPUT: true; the input reads as it did. -/
def controlAimsSpec : ChangeSpec := { name := "controlAims", fn := fun _ => fun
  | [d1, d2, d3] => { results := [.lit (.bool true)], args := [d1, d2, d3] }
  | _ => none }
def controlAimsRow : OpenClaim := { program := "ytnljefglidhnjaa", sum := "62396f67557b84dd7443bc45ae4753413a6a6f2b1872515340b5f5175ca57e0c", func := "additive/additivelaw49.ControlAims", spec := "controlAims", apart := false }
def ControlAimsSaid : Prop := controlAimsRow.holds Try.pinned (OpenSpec.ofChange controlAimsSpec)

/-- ITS FALSE NEIGHBOUR: 'it returns false'. Refute it at one input. -/
def controlAimsWrong : ChangeSpec := { name := "controlAims", fn := fun _ => fun
  | [d1, d2, d3] => { results := [.lit (.bool false)], args := [d1, d2, d3] }
  | _ => none }
def ControlAimsWrongFalsely : Prop := controlAimsRow.holds Try.pinned (OpenSpec.ofChange controlAimsWrong)

/- THE SECOND FORM. 'bulk': how many values and letters a reading holds, each counted each time it is reached (what is shared counts as often as it is met; a slice's spare places count too). A statement '..UptoSaid' is the law's where the arguments, and the package variables that the reading takes, are together of bulk at most 1048576: NARROWER than '..Said'. Prove '..Said' where nothing that the law and all that it calls make is longer than what came in: it says more and counts as full. Else prove '..UptoSaid'. A law counts once. -/
mutual
def uptoBulk {H : Type} : DataW H → Nat
  | .lit (.string bytes) => bytes.length + 1
  | .lit _ => 1
  | .nil => 1
  | .ptr d => uptoBulk d + 1
  | .slice elems spare => uptoBulkAll elems + uptoBulkAll spare + 1
  | .agg parts => uptoBulkAll parts + 1
  | .iface _ d => uptoBulk d + 1
  | .map entries => uptoBulkEntries entries + 1
  | .held _ => 1
def uptoBulkAll {H : Type} : List (DataW H) → Nat
  | [] => 0
  | d :: r => uptoBulk d + uptoBulkAll r
def uptoBulkEntries {H : Type} : List (Lit × DataW H) → Nat
  | [] => 0
  | x :: r => uptoBulkEntry x + uptoBulkEntries r
def uptoBulkEntry {H : Type} : Lit × DataW H → Nat
  | (.string bytes, d) => bytes.length + uptoBulk d + 1
  | (_, d) => uptoBulk d + 1
 end
def uptoSmall : (H : Type) → List (DataW H) → Bool := fun _ ds => decide (uptoBulkAll ds ≤ 1048576)
def OpenSpec.upto (s : _root_.Go.ChangeSpec) : _root_.Go.OpenSpec := { _root_.Go.OpenSpec.ofChange s with cond := some uptoSmall }

/-- 'additivelaw42.DdaCounts', WHERE WHAT IT READS IS OF BULK AT MOST 1048576: true; the input reads as it did. -/
def ddaCountsUptoRow : OpenClaim := { program := "ytnljefglidhnjaa", sum := "62396f67557b84dd7443bc45ae4753413a6a6f2b1872515340b5f5175ca57e0c", func := "additive/additivelaw42.DdaCounts", spec := "ddaCounts", apart := false, narrowed := true }
def DdaCountsUptoSaid : Prop := ddaCountsUptoRow.holds Try.pinned (OpenSpec.upto ddaCountsSpec)

/-- 'additivelaw42.DdaAt', WHERE WHAT IT READS IS OF BULK AT MOST 1048576: true; the input reads as it did. -/
def ddaAtUptoRow : OpenClaim := { program := "ytnljefglidhnjaa", sum := "62396f67557b84dd7443bc45ae4753413a6a6f2b1872515340b5f5175ca57e0c", func := "additive/additivelaw42.DdaAt", spec := "ddaAt", apart := false, narrowed := true }
def DdaAtUptoSaid : Prop := ddaAtUptoRow.holds Try.pinned (OpenSpec.upto ddaAtSpec)

/-- 'additivelaw42.DdaPulse', WHERE WHAT IT READS IS OF BULK AT MOST 1048576: true; the input reads as it did. -/
def ddaPulseUptoRow : OpenClaim := { program := "ytnljefglidhnjaa", sum := "62396f67557b84dd7443bc45ae4753413a6a6f2b1872515340b5f5175ca57e0c", func := "additive/additivelaw42.DdaPulse", spec := "ddaPulse", apart := false, narrowed := true }
def DdaPulseUptoSaid : Prop := ddaPulseUptoRow.holds Try.pinned (OpenSpec.upto ddaPulseSpec)

/-- 'additivelaw42.DdaExact', WHERE WHAT IT READS IS OF BULK AT MOST 1048576: true; the input reads as it did. -/
def ddaExactUptoRow : OpenClaim := { program := "ytnljefglidhnjaa", sum := "62396f67557b84dd7443bc45ae4753413a6a6f2b1872515340b5f5175ca57e0c", func := "additive/additivelaw42.DdaExact", spec := "ddaExact", apart := false, narrowed := true }
def DdaExactUptoSaid : Prop := ddaExactUptoRow.holds Try.pinned (OpenSpec.upto ddaExactSpec)

/-- 'additivelaw42.DdaNear', WHERE WHAT IT READS IS OF BULK AT MOST 1048576: true; the input reads as it did. -/
def ddaNearUptoRow : OpenClaim := { program := "ytnljefglidhnjaa", sum := "62396f67557b84dd7443bc45ae4753413a6a6f2b1872515340b5f5175ca57e0c", func := "additive/additivelaw42.DdaNear", spec := "ddaNear", apart := false, narrowed := true }
def DdaNearUptoSaid : Prop := ddaNearUptoRow.holds Try.pinned (OpenSpec.upto ddaNearSpec)

/-- 'additivelaw42.DdaSigns', WHERE WHAT IT READS IS OF BULK AT MOST 1048576: true; the input reads as it did. -/
def ddaSignsUptoRow : OpenClaim := { program := "ytnljefglidhnjaa", sum := "62396f67557b84dd7443bc45ae4753413a6a6f2b1872515340b5f5175ca57e0c", func := "additive/additivelaw42.DdaSigns", spec := "ddaSigns", apart := false, narrowed := true }
def DdaSignsUptoSaid : Prop := ddaSignsUptoRow.holds Try.pinned (OpenSpec.upto ddaSignsSpec)

/-- 'additivelaw49.ControlValid', WHERE WHAT IT READS IS OF BULK AT MOST 1048576: true; the input reads as it did. -/
def controlValidUptoRow : OpenClaim := { program := "ytnljefglidhnjaa", sum := "62396f67557b84dd7443bc45ae4753413a6a6f2b1872515340b5f5175ca57e0c", func := "additive/additivelaw49.ControlValid", spec := "controlValid", apart := false, narrowed := true }
def ControlValidUptoSaid : Prop := controlValidUptoRow.holds Try.pinned (OpenSpec.upto controlValidSpec)

/-- 'additivelaw49.ControlSteps', WHERE WHAT IT READS IS OF BULK AT MOST 1048576: true; the input reads as it did. -/
def controlStepsUptoRow : OpenClaim := { program := "ytnljefglidhnjaa", sum := "62396f67557b84dd7443bc45ae4753413a6a6f2b1872515340b5f5175ca57e0c", func := "additive/additivelaw49.ControlSteps", spec := "controlSteps", apart := false, narrowed := true }
def ControlStepsUptoSaid : Prop := controlStepsUptoRow.holds Try.pinned (OpenSpec.upto controlStepsSpec)

/-- 'additivelaw49.ControlRuns', WHERE WHAT IT READS IS OF BULK AT MOST 1048576: true; the input reads as it did. -/
def controlRunsUptoRow : OpenClaim := { program := "ytnljefglidhnjaa", sum := "62396f67557b84dd7443bc45ae4753413a6a6f2b1872515340b5f5175ca57e0c", func := "additive/additivelaw49.ControlRuns", spec := "controlRuns", apart := false, narrowed := true }
def ControlRunsUptoSaid : Prop := controlRunsUptoRow.holds Try.pinned (OpenSpec.upto controlRunsSpec)

/-- 'additivelaw49.ControlBounded', WHERE WHAT IT READS IS OF BULK AT MOST 1048576: true; the input reads as it did. -/
def controlBoundedUptoRow : OpenClaim := { program := "ytnljefglidhnjaa", sum := "62396f67557b84dd7443bc45ae4753413a6a6f2b1872515340b5f5175ca57e0c", func := "additive/additivelaw49.ControlBounded", spec := "controlBounded", apart := false, narrowed := true }
def ControlBoundedUptoSaid : Prop := controlBoundedUptoRow.holds Try.pinned (OpenSpec.upto controlBoundedSpec)

/-- 'additivelaw49.ControlMonotone', WHERE WHAT IT READS IS OF BULK AT MOST 1048576: true; the input reads as it did. -/
def controlMonotoneUptoRow : OpenClaim := { program := "ytnljefglidhnjaa", sum := "62396f67557b84dd7443bc45ae4753413a6a6f2b1872515340b5f5175ca57e0c", func := "additive/additivelaw49.ControlMonotone", spec := "controlMonotone", apart := false, narrowed := true }
def ControlMonotoneUptoSaid : Prop := controlMonotoneUptoRow.holds Try.pinned (OpenSpec.upto controlMonotoneSpec)

/-- 'additivelaw49.ControlAims', WHERE WHAT IT READS IS OF BULK AT MOST 1048576: true; the input reads as it did. -/
def controlAimsUptoRow : OpenClaim := { program := "ytnljefglidhnjaa", sum := "62396f67557b84dd7443bc45ae4753413a6a6f2b1872515340b5f5175ca57e0c", func := "additive/additivelaw49.ControlAims", spec := "controlAims", apart := false, narrowed := true }
def ControlAimsUptoSaid : Prop := controlAimsUptoRow.holds Try.pinned (OpenSpec.upto controlAimsSpec)

end Rows
end Go.Proofs.Ytnljefglidhnjaa
