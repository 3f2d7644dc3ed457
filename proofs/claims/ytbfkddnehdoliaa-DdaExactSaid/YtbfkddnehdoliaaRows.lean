/-
  No cell of these rows narrows 'for every input' (looked for: loops, veiled, ifaces, maps, wideKeys, modest, calm, conditions, laid).
  DERIVED. THE GIVEN ROWS OF THIS SEAT. 8 by the template 'for every input the law returns true; each argument reads behind the call as it read before'; 0 by the template 'total and deterministic' (their statements: YtbfkddnehdoliaaTotals.lean).
  GIVEN WITH THE SEED: the statements are not yours to turn. If you find one false, say at which input.
  Laid BY PROGRAM, IN A SANDBOX (cutbox-rows.mjs): the forced cells as the released guide's own fill.sh prints them over the translation 78a55b135b060762… (all of the seat's roots in one cut). By AI agents, Wed Nov 11 2026. No macro, syntax, notation, axiom, sorry.
-/
import Derived.Test.YtbfkddnehdoliaaChecked
import GoSem.Claim
import GoSem.ClaimJoined
import GoSem.ClaimMapViews
import Derived.JoinedTies
import Derived.KernelRfl
namespace Go.Proofs.Ytbfkddnehdoliaa
/- THE CELL 'sum', in the pinned program and in every row, IS THE sha256 OF THE DUMP (.gsa) THAT YtbfkddnehdoliaaProg.lean LOADS. Nothing in Lean hashes anything: it is a label: what it is worth is what the hold of that sum in a sandbox is worth. -/
noncomputable def Try.pinned : Pinned := { name := "ytbfkddnehdoliaa", sum := "78a55b135b0607628f435e26b532b577a7232f2fa8f0a6bc508bb858742b4984", checked := Try.checked }
namespace Rows
def none {H : Type} : Left H := { results := [], args := [] }

/-- 'additivelaw49.ControlRuns': WHATEVER THE INPUT: true; the input reads as it did. -/
def controlRunsSpec : ChangeSpec := { name := "controlRuns", fn := fun _ => fun
  | [d1, d2] => { results := [.lit (.bool true)], args := [d1, d2] }
  | _ => none }
def controlRunsRow : OpenClaim := { program := "ytbfkddnehdoliaa", sum := "78a55b135b0607628f435e26b532b577a7232f2fa8f0a6bc508bb858742b4984", func := "additive/additivelaw49.ControlRuns", spec := "controlRuns", apart := false }
def ControlRunsSaid : Prop := controlRunsRow.holds Try.pinned (OpenSpec.ofChange controlRunsSpec)

/-- ITS FALSE NEIGHBOUR: 'it returns false'. Refute it at one input. -/
def controlRunsWrong : ChangeSpec := { name := "controlRuns", fn := fun _ => fun
  | [d1, d2] => { results := [.lit (.bool false)], args := [d1, d2] }
  | _ => none }
def ControlRunsWrongFalsely : Prop := controlRunsRow.holds Try.pinned (OpenSpec.ofChange controlRunsWrong)

/-- 'additivelaw49.ControlAims': WHATEVER THE INPUT: true; the input reads as it did. -/
def controlAimsSpec : ChangeSpec := { name := "controlAims", fn := fun _ => fun
  | [d1, d2, d3] => { results := [.lit (.bool true)], args := [d1, d2, d3] }
  | _ => none }
def controlAimsRow : OpenClaim := { program := "ytbfkddnehdoliaa", sum := "78a55b135b0607628f435e26b532b577a7232f2fa8f0a6bc508bb858742b4984", func := "additive/additivelaw49.ControlAims", spec := "controlAims", apart := false }
def ControlAimsSaid : Prop := controlAimsRow.holds Try.pinned (OpenSpec.ofChange controlAimsSpec)

/-- ITS FALSE NEIGHBOUR: 'it returns false'. Refute it at one input. -/
def controlAimsWrong : ChangeSpec := { name := "controlAims", fn := fun _ => fun
  | [d1, d2, d3] => { results := [.lit (.bool false)], args := [d1, d2, d3] }
  | _ => none }
def ControlAimsWrongFalsely : Prop := controlAimsRow.holds Try.pinned (OpenSpec.ofChange controlAimsWrong)

/-- 'additivelaw44.AheadFeasible': WHATEVER THE INPUT: true; the input reads as it did. -/
def aheadFeasibleSpec : ChangeSpec := { name := "aheadFeasible", fn := fun _ => fun
  | [d] => { results := [.lit (.bool true)], args := [d] }
  | _ => none }
def aheadFeasibleRow : OpenClaim := { program := "ytbfkddnehdoliaa", sum := "78a55b135b0607628f435e26b532b577a7232f2fa8f0a6bc508bb858742b4984", func := "additive/additivelaw44.AheadFeasible", spec := "aheadFeasible", unfollowed := true, recurses := true, apart := false }
def AheadFeasibleSaid : Prop := aheadFeasibleRow.holds Try.pinned (OpenSpec.ofChange aheadFeasibleSpec)

/-- ITS FALSE NEIGHBOUR: 'it returns false'. Refute it at one input. -/
def aheadFeasibleWrong : ChangeSpec := { name := "aheadFeasible", fn := fun _ => fun
  | [d] => { results := [.lit (.bool false)], args := [d] }
  | _ => none }
def AheadFeasibleWrongFalsely : Prop := aheadFeasibleRow.holds Try.pinned (OpenSpec.ofChange aheadFeasibleWrong)

/-- 'additivelaw44.AheadPlans': WHATEVER THE INPUT: true; the input reads as it did. -/
def aheadPlansSpec : ChangeSpec := { name := "aheadPlans", fn := fun _ => fun
  | [d] => { results := [.lit (.bool true)], args := [d] }
  | _ => none }
def aheadPlansRow : OpenClaim := { program := "ytbfkddnehdoliaa", sum := "78a55b135b0607628f435e26b532b577a7232f2fa8f0a6bc508bb858742b4984", func := "additive/additivelaw44.AheadPlans", spec := "aheadPlans", unfollowed := true, recurses := true, apart := false }
def AheadPlansSaid : Prop := aheadPlansRow.holds Try.pinned (OpenSpec.ofChange aheadPlansSpec)

/-- ITS FALSE NEIGHBOUR: 'it returns false'. Refute it at one input. -/
def aheadPlansWrong : ChangeSpec := { name := "aheadPlans", fn := fun _ => fun
  | [d] => { results := [.lit (.bool false)], args := [d] }
  | _ => none }
def AheadPlansWrongFalsely : Prop := aheadPlansRow.holds Try.pinned (OpenSpec.ofChange aheadPlansWrong)

/-- 'additivelaw44.AheadGreatest': WHATEVER THE INPUT: true; the input reads as it did. -/
def aheadGreatestSpec : ChangeSpec := { name := "aheadGreatest", fn := fun _ => fun
  | [d] => { results := [.lit (.bool true)], args := [d] }
  | _ => none }
def aheadGreatestRow : OpenClaim := { program := "ytbfkddnehdoliaa", sum := "78a55b135b0607628f435e26b532b577a7232f2fa8f0a6bc508bb858742b4984", func := "additive/additivelaw44.AheadGreatest", spec := "aheadGreatest", unfollowed := true, recurses := true, apart := false }
def AheadGreatestSaid : Prop := aheadGreatestRow.holds Try.pinned (OpenSpec.ofChange aheadGreatestSpec)

/-- ITS FALSE NEIGHBOUR: 'it returns false'. Refute it at one input. -/
def aheadGreatestWrong : ChangeSpec := { name := "aheadGreatest", fn := fun _ => fun
  | [d] => { results := [.lit (.bool false)], args := [d] }
  | _ => none }
def AheadGreatestWrongFalsely : Prop := aheadGreatestRow.holds Try.pinned (OpenSpec.ofChange aheadGreatestWrong)

/-- 'additivelaw44.AheadTight': WHATEVER THE INPUT: true; the input reads as it did. -/
def aheadTightSpec : ChangeSpec := { name := "aheadTight", fn := fun _ => fun
  | [d] => { results := [.lit (.bool true)], args := [d] }
  | _ => none }
def aheadTightRow : OpenClaim := { program := "ytbfkddnehdoliaa", sum := "78a55b135b0607628f435e26b532b577a7232f2fa8f0a6bc508bb858742b4984", func := "additive/additivelaw44.AheadTight", spec := "aheadTight", unfollowed := true, recurses := true, apart := false }
def AheadTightSaid : Prop := aheadTightRow.holds Try.pinned (OpenSpec.ofChange aheadTightSpec)

/-- ITS FALSE NEIGHBOUR: 'it returns false'. Refute it at one input. -/
def aheadTightWrong : ChangeSpec := { name := "aheadTight", fn := fun _ => fun
  | [d] => { results := [.lit (.bool false)], args := [d] }
  | _ => none }
def AheadTightWrongFalsely : Prop := aheadTightRow.holds Try.pinned (OpenSpec.ofChange aheadTightWrong)

/-- 'additivelaw44.AheadCaps': WHATEVER THE INPUT: true; the input reads as it did. -/
def aheadCapsSpec : ChangeSpec := { name := "aheadCaps", fn := fun _ => fun
  | [d1, d2, d3] => { results := [.lit (.bool true)], args := [d1, d2, d3] }
  | _ => none }
def aheadCapsRow : OpenClaim := { program := "ytbfkddnehdoliaa", sum := "78a55b135b0607628f435e26b532b577a7232f2fa8f0a6bc508bb858742b4984", func := "additive/additivelaw44.AheadCaps", spec := "aheadCaps", unfollowed := true, recurses := true, apart := false }
def AheadCapsSaid : Prop := aheadCapsRow.holds Try.pinned (OpenSpec.ofChange aheadCapsSpec)

/-- ITS FALSE NEIGHBOUR: 'it returns false'. Refute it at one input. -/
def aheadCapsWrong : ChangeSpec := { name := "aheadCaps", fn := fun _ => fun
  | [d1, d2, d3] => { results := [.lit (.bool false)], args := [d1, d2, d3] }
  | _ => none }
def AheadCapsWrongFalsely : Prop := aheadCapsRow.holds Try.pinned (OpenSpec.ofChange aheadCapsWrong)

/-- 'additivelaw42.DdaExact': WHATEVER THE INPUT: true; the input reads as it did. -/
def ddaExactSpec : ChangeSpec := { name := "ddaExact", fn := fun _ => fun
  | [d] => { results := [.lit (.bool true)], args := [d] }
  | _ => none }
def ddaExactRow : OpenClaim := { program := "ytbfkddnehdoliaa", sum := "78a55b135b0607628f435e26b532b577a7232f2fa8f0a6bc508bb858742b4984", func := "additive/additivelaw42.DdaExact", spec := "ddaExact", apart := false }
def DdaExactSaid : Prop := ddaExactRow.holds Try.pinned (OpenSpec.ofChange ddaExactSpec)

/-- ITS FALSE NEIGHBOUR: 'it returns false'. Refute it at one input. -/
def ddaExactWrong : ChangeSpec := { name := "ddaExact", fn := fun _ => fun
  | [d] => { results := [.lit (.bool false)], args := [d] }
  | _ => none }
def DdaExactWrongFalsely : Prop := ddaExactRow.holds Try.pinned (OpenSpec.ofChange ddaExactWrong)

/- THE SECOND FORM. 'bulk': how many values and letters a reading holds, each counted each time it is reached (what is shared counts as often as it is met; a slice's spare places count too). A statement '..UptoSaid' is the law's where the arguments, and the package variables that the reading takes, are together of bulk at most 1048576: NARROWER than '..Said'. Prove '..Said' where nothing that the law and all that it calls make is longer than what came in: it says more and counts as full. Else prove '..UptoSaid'. A law counts once. -/
mutual
def uptoBulk {H : Type} : DataW H → Nat
  | .lit (.string bytes) => bytes.length + 1
  | .lit _ => 1
  | .nil => 1
  | .ptr d => uptoBulk d + 1
  | .slice elems spare => uptoBulkAll elems + uptoBulkAll spare + 1
  | .agg parts => uptoBulkAll parts + 1
  | .iface _ d => uptoBulk d + 1
  | .map entries => uptoBulkEntries entries + 1
  | .held _ => 1
def uptoBulkAll {H : Type} : List (DataW H) → Nat
  | [] => 0
  | d :: r => uptoBulk d + uptoBulkAll r
def uptoBulkEntries {H : Type} : List (Lit × DataW H) → Nat
  | [] => 0
  | x :: r => uptoBulkEntry x + uptoBulkEntries r
def uptoBulkEntry {H : Type} : Lit × DataW H → Nat
  | (.string bytes, d) => bytes.length + uptoBulk d + 1
  | (_, d) => uptoBulk d + 1
 end
def uptoSmall : (H : Type) → List (DataW H) → Bool := fun _ ds => decide (uptoBulkAll ds ≤ 1048576)
def OpenSpec.upto (s : _root_.Go.ChangeSpec) : _root_.Go.OpenSpec := { _root_.Go.OpenSpec.ofChange s with cond := some uptoSmall }

/-- 'additivelaw49.ControlRuns', WHERE WHAT IT READS IS OF BULK AT MOST 1048576: true; the input reads as it did. -/
def controlRunsUptoRow : OpenClaim := { program := "ytbfkddnehdoliaa", sum := "78a55b135b0607628f435e26b532b577a7232f2fa8f0a6bc508bb858742b4984", func := "additive/additivelaw49.ControlRuns", spec := "controlRuns", apart := false, narrowed := true }
def ControlRunsUptoSaid : Prop := controlRunsUptoRow.holds Try.pinned (OpenSpec.upto controlRunsSpec)

/-- 'additivelaw49.ControlAims', WHERE WHAT IT READS IS OF BULK AT MOST 1048576: true; the input reads as it did. -/
def controlAimsUptoRow : OpenClaim := { program := "ytbfkddnehdoliaa", sum := "78a55b135b0607628f435e26b532b577a7232f2fa8f0a6bc508bb858742b4984", func := "additive/additivelaw49.ControlAims", spec := "controlAims", apart := false, narrowed := true }
def ControlAimsUptoSaid : Prop := controlAimsUptoRow.holds Try.pinned (OpenSpec.upto controlAimsSpec)

/-- 'additivelaw44.AheadFeasible', WHERE WHAT IT READS IS OF BULK AT MOST 1048576: true; the input reads as it did. -/
def aheadFeasibleUptoRow : OpenClaim := { program := "ytbfkddnehdoliaa", sum := "78a55b135b0607628f435e26b532b577a7232f2fa8f0a6bc508bb858742b4984", func := "additive/additivelaw44.AheadFeasible", spec := "aheadFeasible", unfollowed := true, recurses := true, apart := false, narrowed := true }
def AheadFeasibleUptoSaid : Prop := aheadFeasibleUptoRow.holds Try.pinned (OpenSpec.upto aheadFeasibleSpec)

/-- 'additivelaw44.AheadPlans', WHERE WHAT IT READS IS OF BULK AT MOST 1048576: true; the input reads as it did. -/
def aheadPlansUptoRow : OpenClaim := { program := "ytbfkddnehdoliaa", sum := "78a55b135b0607628f435e26b532b577a7232f2fa8f0a6bc508bb858742b4984", func := "additive/additivelaw44.AheadPlans", spec := "aheadPlans", unfollowed := true, recurses := true, apart := false, narrowed := true }
def AheadPlansUptoSaid : Prop := aheadPlansUptoRow.holds Try.pinned (OpenSpec.upto aheadPlansSpec)

/-- 'additivelaw44.AheadGreatest', WHERE WHAT IT READS IS OF BULK AT MOST 1048576: true; the input reads as it did. -/
def aheadGreatestUptoRow : OpenClaim := { program := "ytbfkddnehdoliaa", sum := "78a55b135b0607628f435e26b532b577a7232f2fa8f0a6bc508bb858742b4984", func := "additive/additivelaw44.AheadGreatest", spec := "aheadGreatest", unfollowed := true, recurses := true, apart := false, narrowed := true }
def AheadGreatestUptoSaid : Prop := aheadGreatestUptoRow.holds Try.pinned (OpenSpec.upto aheadGreatestSpec)

/-- 'additivelaw44.AheadTight', WHERE WHAT IT READS IS OF BULK AT MOST 1048576: true; the input reads as it did. -/
def aheadTightUptoRow : OpenClaim := { program := "ytbfkddnehdoliaa", sum := "78a55b135b0607628f435e26b532b577a7232f2fa8f0a6bc508bb858742b4984", func := "additive/additivelaw44.AheadTight", spec := "aheadTight", unfollowed := true, recurses := true, apart := false, narrowed := true }
def AheadTightUptoSaid : Prop := aheadTightUptoRow.holds Try.pinned (OpenSpec.upto aheadTightSpec)

/-- 'additivelaw44.AheadCaps', WHERE WHAT IT READS IS OF BULK AT MOST 1048576: true; the input reads as it did. -/
def aheadCapsUptoRow : OpenClaim := { program := "ytbfkddnehdoliaa", sum := "78a55b135b0607628f435e26b532b577a7232f2fa8f0a6bc508bb858742b4984", func := "additive/additivelaw44.AheadCaps", spec := "aheadCaps", unfollowed := true, recurses := true, apart := false, narrowed := true }
def AheadCapsUptoSaid : Prop := aheadCapsUptoRow.holds Try.pinned (OpenSpec.upto aheadCapsSpec)

/-- 'additivelaw42.DdaExact', WHERE WHAT IT READS IS OF BULK AT MOST 1048576: true; the input reads as it did. -/
def ddaExactUptoRow : OpenClaim := { program := "ytbfkddnehdoliaa", sum := "78a55b135b0607628f435e26b532b577a7232f2fa8f0a6bc508bb858742b4984", func := "additive/additivelaw42.DdaExact", spec := "ddaExact", apart := false, narrowed := true }
def DdaExactUptoSaid : Prop := ddaExactUptoRow.holds Try.pinned (OpenSpec.upto ddaExactSpec)

end Rows
end Go.Proofs.Ytbfkddnehdoliaa
