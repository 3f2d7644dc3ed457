/-
  No cell of these rows narrows 'for every input' (looked for: loops, veiled, ifaces, maps, wideKeys, modest, calm, conditions, laid).
  DERIVED. THE GIVEN ROWS OF THIS SEAT. 5 by the template 'for every input the law returns true; each argument reads behind the call as it read before'; 0 by the template 'total and deterministic' (their statements: YtfdamfapnpgmjaaTotals.lean).
  GIVEN WITH THE SEED: the statements are not yours to turn. If you find one false, say at which input.
  Laid BY PROGRAM, IN A SANDBOX (cutbox-rows.mjs): the forced cells as the released guide's own fill.sh prints them over the translation 731021244c731cb8… (all of the seat's roots in one cut). By AI agents, Wed Nov 11 2026. No macro, syntax, notation, axiom, sorry.
-/
import Derived.Test.YtfdamfapnpgmjaaChecked
import GoSem.Claim
import GoSem.ClaimJoined
import GoSem.ClaimMapViews
import Derived.JoinedTies
import Derived.KernelRfl
namespace Go.Proofs.Ytfdamfapnpgmjaa
/- THE CELL 'sum', in the pinned program and in every row, IS THE sha256 OF THE DUMP (.gsa) THAT YtfdamfapnpgmjaaProg.lean LOADS. Nothing in Lean hashes anything: it is a label: what it is worth is what the hold of that sum in a sandbox is worth. -/
noncomputable def Try.pinned : Pinned := { name := "ytfdamfapnpgmjaa", sum := "731021244c731cb8568fddf93f103f6ff0b4338b738ba7c2785fa9bd838565b7", checked := Try.checked }
namespace Rows
def none {H : Type} : Left H := { results := [], args := [] }

/-- 'additivelaw28.SkinResults': WHATEVER THE INPUT: true; the input reads as it did. -/
def skinResultsSpec : ChangeSpec := { name := "skinResults", fn := fun _ => fun
  | [d] => { results := [.lit (.bool true)], args := [d] }
  | _ => none }
def skinResultsRow : OpenClaim := { program := "ytfdamfapnpgmjaa", sum := "731021244c731cb8568fddf93f103f6ff0b4338b738ba7c2785fa9bd838565b7", func := "additive/additivelaw28.SkinResults", spec := "skinResults", unfollowed := true, recurses := true, apart := false }
def SkinResultsSaid : Prop := skinResultsRow.holds Try.pinned (OpenSpec.ofChange skinResultsSpec)

/-- ITS FALSE NEIGHBOUR: 'it returns false'. Refute it at one input. -/
def skinResultsWrong : ChangeSpec := { name := "skinResults", fn := fun _ => fun
  | [d] => { results := [.lit (.bool false)], args := [d] }
  | _ => none }
def SkinResultsWrongFalsely : Prop := skinResultsRow.holds Try.pinned (OpenSpec.ofChange skinResultsWrong)

/-- 'additivelaw28.SkinCovers': WHATEVER THE INPUT: true; the input reads as it did. -/
def skinCoversSpec : ChangeSpec := { name := "skinCovers", fn := fun _ => fun
  | [d] => { results := [.lit (.bool true)], args := [d] }
  | _ => none }
def skinCoversRow : OpenClaim := { program := "ytfdamfapnpgmjaa", sum := "731021244c731cb8568fddf93f103f6ff0b4338b738ba7c2785fa9bd838565b7", func := "additive/additivelaw28.SkinCovers", spec := "skinCovers", unfollowed := true, recurses := true, apart := false }
def SkinCoversSaid : Prop := skinCoversRow.holds Try.pinned (OpenSpec.ofChange skinCoversSpec)

/-- ITS FALSE NEIGHBOUR: 'it returns false'. Refute it at one input. -/
def skinCoversWrong : ChangeSpec := { name := "skinCovers", fn := fun _ => fun
  | [d] => { results := [.lit (.bool false)], args := [d] }
  | _ => none }
def SkinCoversWrongFalsely : Prop := skinCoversRow.holds Try.pinned (OpenSpec.ofChange skinCoversWrong)

/-- 'additivelaw28.SkinDivides': WHATEVER THE INPUT: true; the input reads as it did. -/
def skinDividesSpec : ChangeSpec := { name := "skinDivides", fn := fun _ => fun
  | [d] => { results := [.lit (.bool true)], args := [d] }
  | _ => none }
def skinDividesRow : OpenClaim := { program := "ytfdamfapnpgmjaa", sum := "731021244c731cb8568fddf93f103f6ff0b4338b738ba7c2785fa9bd838565b7", func := "additive/additivelaw28.SkinDivides", spec := "skinDivides", unfollowed := true, recurses := true, apart := false }
def SkinDividesSaid : Prop := skinDividesRow.holds Try.pinned (OpenSpec.ofChange skinDividesSpec)

/-- ITS FALSE NEIGHBOUR: 'it returns false'. Refute it at one input. -/
def skinDividesWrong : ChangeSpec := { name := "skinDivides", fn := fun _ => fun
  | [d] => { results := [.lit (.bool false)], args := [d] }
  | _ => none }
def SkinDividesWrongFalsely : Prop := skinDividesRow.holds Try.pinned (OpenSpec.ofChange skinDividesWrong)

/-- 'additivelaw28.SkinMore': WHATEVER THE INPUT: true; the input reads as it did. -/
def skinMoreSpec : ChangeSpec := { name := "skinMore", fn := fun _ => fun
  | [d1, d2, d3] => { results := [.lit (.bool true)], args := [d1, d2, d3] }
  | _ => none }
def skinMoreRow : OpenClaim := { program := "ytfdamfapnpgmjaa", sum := "731021244c731cb8568fddf93f103f6ff0b4338b738ba7c2785fa9bd838565b7", func := "additive/additivelaw28.SkinMore", spec := "skinMore", unfollowed := true, recurses := true, apart := false }
def SkinMoreSaid : Prop := skinMoreRow.holds Try.pinned (OpenSpec.ofChange skinMoreSpec)

/-- ITS FALSE NEIGHBOUR: 'it returns false'. Refute it at one input. -/
def skinMoreWrong : ChangeSpec := { name := "skinMore", fn := fun _ => fun
  | [d1, d2, d3] => { results := [.lit (.bool false)], args := [d1, d2, d3] }
  | _ => none }
def SkinMoreWrongFalsely : Prop := skinMoreRow.holds Try.pinned (OpenSpec.ofChange skinMoreWrong)

/-- 'additivelaw28.SkinTurned': WHATEVER THE INPUT: true; the input reads as it did. -/
def skinTurnedSpec : ChangeSpec := { name := "skinTurned", fn := fun _ => fun
  | [d] => { results := [.lit (.bool true)], args := [d] }
  | _ => none }
def skinTurnedRow : OpenClaim := { program := "ytfdamfapnpgmjaa", sum := "731021244c731cb8568fddf93f103f6ff0b4338b738ba7c2785fa9bd838565b7", func := "additive/additivelaw28.SkinTurned", spec := "skinTurned", unfollowed := true, recurses := true, apart := false }
def SkinTurnedSaid : Prop := skinTurnedRow.holds Try.pinned (OpenSpec.ofChange skinTurnedSpec)

/-- ITS FALSE NEIGHBOUR: 'it returns false'. Refute it at one input. -/
def skinTurnedWrong : ChangeSpec := { name := "skinTurned", fn := fun _ => fun
  | [d] => { results := [.lit (.bool false)], args := [d] }
  | _ => none }
def SkinTurnedWrongFalsely : Prop := skinTurnedRow.holds Try.pinned (OpenSpec.ofChange skinTurnedWrong)

/- THE SECOND FORM. 'bulk': how many values and letters a reading holds, each counted each time it is reached (what is shared counts as often as it is met; a slice's spare places count too). A statement '..UptoSaid' is the law's where the arguments, and the package variables that the reading takes, are together of bulk at most 1048576: NARROWER than '..Said'. Prove '..Said' where nothing that the law and all that it calls make is longer than what came in: it says more and counts as full. Else prove '..UptoSaid'. A law counts once. -/
mutual
def uptoBulk {H : Type} : DataW H → Nat
  | .lit (.string bytes) => bytes.length + 1
  | .lit _ => 1
  | .nil => 1
  | .ptr d => uptoBulk d + 1
  | .slice elems spare => uptoBulkAll elems + uptoBulkAll spare + 1
  | .agg parts => uptoBulkAll parts + 1
  | .iface _ d => uptoBulk d + 1
  | .map entries => uptoBulkEntries entries + 1
  | .held _ => 1
def uptoBulkAll {H : Type} : List (DataW H) → Nat
  | [] => 0
  | d :: r => uptoBulk d + uptoBulkAll r
def uptoBulkEntries {H : Type} : List (Lit × DataW H) → Nat
  | [] => 0
  | x :: r => uptoBulkEntry x + uptoBulkEntries r
def uptoBulkEntry {H : Type} : Lit × DataW H → Nat
  | (.string bytes, d) => bytes.length + uptoBulk d + 1
  | (_, d) => uptoBulk d + 1
 end
def uptoSmall : (H : Type) → List (DataW H) → Bool := fun _ ds => decide (uptoBulkAll ds ≤ 1048576)
def OpenSpec.upto (s : _root_.Go.ChangeSpec) : _root_.Go.OpenSpec := { _root_.Go.OpenSpec.ofChange s with cond := some uptoSmall }

/-- 'additivelaw28.SkinResults', WHERE WHAT IT READS IS OF BULK AT MOST 1048576: true; the input reads as it did. -/
def skinResultsUptoRow : OpenClaim := { program := "ytfdamfapnpgmjaa", sum := "731021244c731cb8568fddf93f103f6ff0b4338b738ba7c2785fa9bd838565b7", func := "additive/additivelaw28.SkinResults", spec := "skinResults", unfollowed := true, recurses := true, apart := false, narrowed := true }
def SkinResultsUptoSaid : Prop := skinResultsUptoRow.holds Try.pinned (OpenSpec.upto skinResultsSpec)

/-- 'additivelaw28.SkinCovers', WHERE WHAT IT READS IS OF BULK AT MOST 1048576: true; the input reads as it did. -/
def skinCoversUptoRow : OpenClaim := { program := "ytfdamfapnpgmjaa", sum := "731021244c731cb8568fddf93f103f6ff0b4338b738ba7c2785fa9bd838565b7", func := "additive/additivelaw28.SkinCovers", spec := "skinCovers", unfollowed := true, recurses := true, apart := false, narrowed := true }
def SkinCoversUptoSaid : Prop := skinCoversUptoRow.holds Try.pinned (OpenSpec.upto skinCoversSpec)

/-- 'additivelaw28.SkinDivides', WHERE WHAT IT READS IS OF BULK AT MOST 1048576: true; the input reads as it did. -/
def skinDividesUptoRow : OpenClaim := { program := "ytfdamfapnpgmjaa", sum := "731021244c731cb8568fddf93f103f6ff0b4338b738ba7c2785fa9bd838565b7", func := "additive/additivelaw28.SkinDivides", spec := "skinDivides", unfollowed := true, recurses := true, apart := false, narrowed := true }
def SkinDividesUptoSaid : Prop := skinDividesUptoRow.holds Try.pinned (OpenSpec.upto skinDividesSpec)

/-- 'additivelaw28.SkinMore', WHERE WHAT IT READS IS OF BULK AT MOST 1048576: true; the input reads as it did. -/
def skinMoreUptoRow : OpenClaim := { program := "ytfdamfapnpgmjaa", sum := "731021244c731cb8568fddf93f103f6ff0b4338b738ba7c2785fa9bd838565b7", func := "additive/additivelaw28.SkinMore", spec := "skinMore", unfollowed := true, recurses := true, apart := false, narrowed := true }
def SkinMoreUptoSaid : Prop := skinMoreUptoRow.holds Try.pinned (OpenSpec.upto skinMoreSpec)

/-- 'additivelaw28.SkinTurned', WHERE WHAT IT READS IS OF BULK AT MOST 1048576: true; the input reads as it did. -/
def skinTurnedUptoRow : OpenClaim := { program := "ytfdamfapnpgmjaa", sum := "731021244c731cb8568fddf93f103f6ff0b4338b738ba7c2785fa9bd838565b7", func := "additive/additivelaw28.SkinTurned", spec := "skinTurned", unfollowed := true, recurses := true, apart := false, narrowed := true }
def SkinTurnedUptoSaid : Prop := skinTurnedUptoRow.holds Try.pinned (OpenSpec.upto skinTurnedSpec)

end Rows
end Go.Proofs.Ytfdamfapnpgmjaa
