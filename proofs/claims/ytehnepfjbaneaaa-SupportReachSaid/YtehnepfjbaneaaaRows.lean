/-
  No cell of these rows narrows 'for every input' (looked for: loops, veiled, ifaces, maps, wideKeys, modest, calm, conditions, laid).
  DERIVED. THE GIVEN ROWS OF THIS SEAT. 3 by the template 'for every input the law returns true; each argument reads behind the call as it read before'; 0 by the template 'total and deterministic' (their statements: YtehnepfjbaneaaaTotals.lean).
  GIVEN WITH THE SEED: the statements are not yours to turn. If you find one false, say at which input.
  Laid BY PROGRAM, IN A SANDBOX (cutbox-rows.mjs): the forced cells as the released guide's own fill.sh prints them over the translation 533f23337c23f75f… (all of the seat's roots in one cut). By AI agents, Wed Nov 11 2026. No macro, syntax, notation, axiom, sorry.
-/
import Derived.Test.YtehnepfjbaneaaaChecked
import GoSem.Claim
import GoSem.ClaimJoined
import GoSem.ClaimMapViews
import Derived.JoinedTies
import Derived.KernelRfl
namespace Go.Proofs.Ytehnepfjbaneaaa
/- THE CELL 'sum', in the pinned program and in every row, IS THE sha256 OF THE DUMP (.gsa) THAT YtehnepfjbaneaaaProg.lean LOADS. Nothing in Lean hashes anything: it is a label: what it is worth is what the hold of that sum in a sandbox is worth. -/
noncomputable def Try.pinned : Pinned := { name := "ytehnepfjbaneaaa", sum := "533f23337c23f75f161b8e42cd73f864ecc42394683f8e483b78d8778ad5bad3", checked := Try.checked }
namespace Rows
def none {H : Type} : Left H := { results := [], args := [] }

/-- 'additivelaw31.SupportHolds': WHATEVER THE INPUT: true; the input reads as it did. -/
def supportHoldsSpec : ChangeSpec := { name := "supportHolds", fn := fun _ => fun
  | [d1, d2, d3] => { results := [.lit (.bool true)], args := [d1, d2, d3] }
  | _ => none }
def supportHoldsRow : OpenClaim := { program := "ytehnepfjbaneaaa", sum := "533f23337c23f75f161b8e42cd73f864ecc42394683f8e483b78d8778ad5bad3", func := "additive/additivelaw31.SupportHolds", spec := "supportHolds", unfollowed := true, recurses := true, apart := false }
def SupportHoldsSaid : Prop := supportHoldsRow.holds Try.pinned (OpenSpec.ofChange supportHoldsSpec)

/-- ITS FALSE NEIGHBOUR: 'it returns false'. Refute it at one input. -/
def supportHoldsWrong : ChangeSpec := { name := "supportHolds", fn := fun _ => fun
  | [d1, d2, d3] => { results := [.lit (.bool false)], args := [d1, d2, d3] }
  | _ => none }
def SupportHoldsWrongFalsely : Prop := supportHoldsRow.holds Try.pinned (OpenSpec.ofChange supportHoldsWrong)

/-- 'additivelaw31.SupportClear': WHATEVER THE INPUT: true; the input reads as it did. -/
def supportClearSpec : ChangeSpec := { name := "supportClear", fn := fun _ => fun
  | [d1, d2, d3] => { results := [.lit (.bool true)], args := [d1, d2, d3] }
  | _ => none }
def supportClearRow : OpenClaim := { program := "ytehnepfjbaneaaa", sum := "533f23337c23f75f161b8e42cd73f864ecc42394683f8e483b78d8778ad5bad3", func := "additive/additivelaw31.SupportClear", spec := "supportClear", unfollowed := true, recurses := true, apart := false }
def SupportClearSaid : Prop := supportClearRow.holds Try.pinned (OpenSpec.ofChange supportClearSpec)

/-- ITS FALSE NEIGHBOUR: 'it returns false'. Refute it at one input. -/
def supportClearWrong : ChangeSpec := { name := "supportClear", fn := fun _ => fun
  | [d1, d2, d3] => { results := [.lit (.bool false)], args := [d1, d2, d3] }
  | _ => none }
def SupportClearWrongFalsely : Prop := supportClearRow.holds Try.pinned (OpenSpec.ofChange supportClearWrong)

/-- 'additivelaw31.SupportReach': WHATEVER THE INPUT: true; the input reads as it did. -/
def supportReachSpec : ChangeSpec := { name := "supportReach", fn := fun _ => fun
  | [d1, d2, d3] => { results := [.lit (.bool true)], args := [d1, d2, d3] }
  | _ => none }
def supportReachRow : OpenClaim := { program := "ytehnepfjbaneaaa", sum := "533f23337c23f75f161b8e42cd73f864ecc42394683f8e483b78d8778ad5bad3", func := "additive/additivelaw31.SupportReach", spec := "supportReach", unfollowed := true, recurses := true, apart := false }
def SupportReachSaid : Prop := supportReachRow.holds Try.pinned (OpenSpec.ofChange supportReachSpec)

/-- ITS FALSE NEIGHBOUR: 'it returns false'. Refute it at one input. -/
def supportReachWrong : ChangeSpec := { name := "supportReach", fn := fun _ => fun
  | [d1, d2, d3] => { results := [.lit (.bool false)], args := [d1, d2, d3] }
  | _ => none }
def SupportReachWrongFalsely : Prop := supportReachRow.holds Try.pinned (OpenSpec.ofChange supportReachWrong)

/- THE SECOND FORM. 'bulk': how many values and letters a reading holds, each counted each time it is reached (what is shared counts as often as it is met; a slice's spare places count too). A statement '..UptoSaid' is the law's where the arguments, and the package variables that the reading takes, are together of bulk at most 1048576: NARROWER than '..Said'. Prove '..Said' where nothing that the law and all that it calls make is longer than what came in: it says more and counts as full. Else prove '..UptoSaid'. A law counts once. -/
mutual
def uptoBulk {H : Type} : DataW H → Nat
  | .lit (.string bytes) => bytes.length + 1
  | .lit _ => 1
  | .nil => 1
  | .ptr d => uptoBulk d + 1
  | .slice elems spare => uptoBulkAll elems + uptoBulkAll spare + 1
  | .agg parts => uptoBulkAll parts + 1
  | .iface _ d => uptoBulk d + 1
  | .map entries => uptoBulkEntries entries + 1
  | .held _ => 1
def uptoBulkAll {H : Type} : List (DataW H) → Nat
  | [] => 0
  | d :: r => uptoBulk d + uptoBulkAll r
def uptoBulkEntries {H : Type} : List (Lit × DataW H) → Nat
  | [] => 0
  | x :: r => uptoBulkEntry x + uptoBulkEntries r
def uptoBulkEntry {H : Type} : Lit × DataW H → Nat
  | (.string bytes, d) => bytes.length + uptoBulk d + 1
  | (_, d) => uptoBulk d + 1
 end
def uptoSmall : (H : Type) → List (DataW H) → Bool := fun _ ds => decide (uptoBulkAll ds ≤ 1048576)
def OpenSpec.upto (s : _root_.Go.ChangeSpec) : _root_.Go.OpenSpec := { _root_.Go.OpenSpec.ofChange s with cond := some uptoSmall }

/-- 'additivelaw31.SupportHolds', WHERE WHAT IT READS IS OF BULK AT MOST 1048576: true; the input reads as it did. -/
def supportHoldsUptoRow : OpenClaim := { program := "ytehnepfjbaneaaa", sum := "533f23337c23f75f161b8e42cd73f864ecc42394683f8e483b78d8778ad5bad3", func := "additive/additivelaw31.SupportHolds", spec := "supportHolds", unfollowed := true, recurses := true, apart := false, narrowed := true }
def SupportHoldsUptoSaid : Prop := supportHoldsUptoRow.holds Try.pinned (OpenSpec.upto supportHoldsSpec)

/-- 'additivelaw31.SupportClear', WHERE WHAT IT READS IS OF BULK AT MOST 1048576: true; the input reads as it did. -/
def supportClearUptoRow : OpenClaim := { program := "ytehnepfjbaneaaa", sum := "533f23337c23f75f161b8e42cd73f864ecc42394683f8e483b78d8778ad5bad3", func := "additive/additivelaw31.SupportClear", spec := "supportClear", unfollowed := true, recurses := true, apart := false, narrowed := true }
def SupportClearUptoSaid : Prop := supportClearUptoRow.holds Try.pinned (OpenSpec.upto supportClearSpec)

/-- 'additivelaw31.SupportReach', WHERE WHAT IT READS IS OF BULK AT MOST 1048576: true; the input reads as it did. -/
def supportReachUptoRow : OpenClaim := { program := "ytehnepfjbaneaaa", sum := "533f23337c23f75f161b8e42cd73f864ecc42394683f8e483b78d8778ad5bad3", func := "additive/additivelaw31.SupportReach", spec := "supportReach", unfollowed := true, recurses := true, apart := false, narrowed := true }
def SupportReachUptoSaid : Prop := supportReachUptoRow.holds Try.pinned (OpenSpec.upto supportReachSpec)

end Rows
end Go.Proofs.Ytehnepfjbaneaaa
