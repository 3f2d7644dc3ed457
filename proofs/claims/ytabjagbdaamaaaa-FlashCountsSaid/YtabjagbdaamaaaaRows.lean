/-
  No cell of these rows narrows 'for every input' (looked for: loops, veiled, ifaces, maps, wideKeys, modest, calm, conditions, laid).
  DERIVED. THE GIVEN ROWS OF THIS SEAT. 6 by the template 'for every input the law returns true; each argument reads behind the call as it read before'; 0 by the template 'total and deterministic' (their statements: YtabjagbdaamaaaaTotals.lean).
  GIVEN WITH THE SEED: the statements are not yours to turn. If you find one false, say at which input.
  Laid BY PROGRAM, IN A SANDBOX (cutbox-rows.mjs): the forced cells as the released guide's own fill.sh prints them over the translation 7cdd751690ca10d9… (all of the seat's roots in one cut). By AI agents, Wed Nov 11 2026. No macro, syntax, notation, axiom, sorry.
-/
import Derived.Test.YtabjagbdaamaaaaChecked
import GoSem.Claim
import GoSem.ClaimJoined
import GoSem.ClaimMapViews
import Derived.JoinedTies
import Derived.KernelRfl
namespace Go.Proofs.Ytabjagbdaamaaaa
/- THE CELL 'sum', in the pinned program and in every row, IS THE sha256 OF THE DUMP (.gsa) THAT YtabjagbdaamaaaaProg.lean LOADS. Nothing in Lean hashes anything: it is a label: what it is worth is what the hold of that sum in a sandbox is worth. -/
noncomputable def Try.pinned : Pinned := { name := "ytabjagbdaamaaaa", sum := "7cdd751690ca10d900901c92c610b1c5495c86dbacfb92d79f188ed1e51bb315", checked := Try.checked }
namespace Rows
def none {H : Type} : Left H := { results := [], args := [] }

/-- 'additivelaw51.FlashNews': WHATEVER THE INPUT: true; the input reads as it did. -/
def flashNewsSpec : ChangeSpec := { name := "flashNews", fn := fun _ => fun
  | [d] => { results := [.lit (.bool true)], args := [d] }
  | _ => none }
def flashNewsRow : OpenClaim := { program := "ytabjagbdaamaaaa", sum := "7cdd751690ca10d900901c92c610b1c5495c86dbacfb92d79f188ed1e51bb315", func := "additive/additivelaw51.FlashNews", spec := "flashNews", inPlace := ["internal/abi.NoEscape", "internal/bytealg.MakeNoZero"], unfollowed := true, recurses := true, apart := false }
def FlashNewsSaid : Prop := flashNewsRow.holds Try.pinned (OpenSpec.ofChange flashNewsSpec)

/-- ITS FALSE NEIGHBOUR: 'it returns false'. Refute it at one input. -/
def flashNewsWrong : ChangeSpec := { name := "flashNews", fn := fun _ => fun
  | [d] => { results := [.lit (.bool false)], args := [d] }
  | _ => none }
def FlashNewsWrongFalsely : Prop := flashNewsRow.holds Try.pinned (OpenSpec.ofChange flashNewsWrong)

/-- 'additivelaw51.FlashReads': WHATEVER THE INPUT: true; the input reads as it did. -/
def flashReadsSpec : ChangeSpec := { name := "flashReads", fn := fun _ => fun
  | [d] => { results := [.lit (.bool true)], args := [d] }
  | _ => none }
def flashReadsRow : OpenClaim := { program := "ytabjagbdaamaaaa", sum := "7cdd751690ca10d900901c92c610b1c5495c86dbacfb92d79f188ed1e51bb315", func := "additive/additivelaw51.FlashReads", spec := "flashReads", inPlace := ["internal/abi.NoEscape", "internal/bytealg.MakeNoZero"], unfollowed := true, recurses := true, apart := false }
def FlashReadsSaid : Prop := flashReadsRow.holds Try.pinned (OpenSpec.ofChange flashReadsSpec)

/-- ITS FALSE NEIGHBOUR: 'it returns false'. Refute it at one input. -/
def flashReadsWrong : ChangeSpec := { name := "flashReads", fn := fun _ => fun
  | [d] => { results := [.lit (.bool false)], args := [d] }
  | _ => none }
def FlashReadsWrongFalsely : Prop := flashReadsRow.holds Try.pinned (OpenSpec.ofChange flashReadsWrong)

/-- 'additivelaw51.FlashWrites': WHATEVER THE INPUT: true; the input reads as it did. -/
def flashWritesSpec : ChangeSpec := { name := "flashWrites", fn := fun _ => fun
  | [d] => { results := [.lit (.bool true)], args := [d] }
  | _ => none }
def flashWritesRow : OpenClaim := { program := "ytabjagbdaamaaaa", sum := "7cdd751690ca10d900901c92c610b1c5495c86dbacfb92d79f188ed1e51bb315", func := "additive/additivelaw51.FlashWrites", spec := "flashWrites", inPlace := ["internal/abi.NoEscape", "internal/bytealg.MakeNoZero"], unfollowed := true, recurses := true, apart := false }
def FlashWritesSaid : Prop := flashWritesRow.holds Try.pinned (OpenSpec.ofChange flashWritesSpec)

/-- ITS FALSE NEIGHBOUR: 'it returns false'. Refute it at one input. -/
def flashWritesWrong : ChangeSpec := { name := "flashWrites", fn := fun _ => fun
  | [d] => { results := [.lit (.bool false)], args := [d] }
  | _ => none }
def FlashWritesWrongFalsely : Prop := flashWritesRow.holds Try.pinned (OpenSpec.ofChange flashWritesWrong)

/-- 'additivelaw51.FlashFails': WHATEVER THE INPUT: true; the input reads as it did. -/
def flashFailsSpec : ChangeSpec := { name := "flashFails", fn := fun _ => fun
  | [d] => { results := [.lit (.bool true)], args := [d] }
  | _ => none }
def flashFailsRow : OpenClaim := { program := "ytabjagbdaamaaaa", sum := "7cdd751690ca10d900901c92c610b1c5495c86dbacfb92d79f188ed1e51bb315", func := "additive/additivelaw51.FlashFails", spec := "flashFails", inPlace := ["internal/abi.NoEscape", "internal/bytealg.MakeNoZero"], unfollowed := true, recurses := true, apart := false }
def FlashFailsSaid : Prop := flashFailsRow.holds Try.pinned (OpenSpec.ofChange flashFailsSpec)

/-- ITS FALSE NEIGHBOUR: 'it returns false'. Refute it at one input. -/
def flashFailsWrong : ChangeSpec := { name := "flashFails", fn := fun _ => fun
  | [d] => { results := [.lit (.bool false)], args := [d] }
  | _ => none }
def FlashFailsWrongFalsely : Prop := flashFailsRow.holds Try.pinned (OpenSpec.ofChange flashFailsWrong)

/-- 'additivelaw51.FlashTorn': WHATEVER THE INPUT: true; the input reads as it did. -/
def flashTornSpec : ChangeSpec := { name := "flashTorn", fn := fun _ => fun
  | [d] => { results := [.lit (.bool true)], args := [d] }
  | _ => none }
def flashTornRow : OpenClaim := { program := "ytabjagbdaamaaaa", sum := "7cdd751690ca10d900901c92c610b1c5495c86dbacfb92d79f188ed1e51bb315", func := "additive/additivelaw51.FlashTorn", spec := "flashTorn", inPlace := ["internal/abi.NoEscape", "internal/bytealg.MakeNoZero"], unfollowed := true, recurses := true, apart := false }
def FlashTornSaid : Prop := flashTornRow.holds Try.pinned (OpenSpec.ofChange flashTornSpec)

/-- ITS FALSE NEIGHBOUR: 'it returns false'. Refute it at one input. -/
def flashTornWrong : ChangeSpec := { name := "flashTorn", fn := fun _ => fun
  | [d] => { results := [.lit (.bool false)], args := [d] }
  | _ => none }
def FlashTornWrongFalsely : Prop := flashTornRow.holds Try.pinned (OpenSpec.ofChange flashTornWrong)

/-- 'additivelaw51.FlashCounts': WHATEVER THE INPUT: true; the input reads as it did. -/
def flashCountsSpec : ChangeSpec := { name := "flashCounts", fn := fun _ => fun
  | [d] => { results := [.lit (.bool true)], args := [d] }
  | _ => none }
def flashCountsRow : OpenClaim := { program := "ytabjagbdaamaaaa", sum := "7cdd751690ca10d900901c92c610b1c5495c86dbacfb92d79f188ed1e51bb315", func := "additive/additivelaw51.FlashCounts", spec := "flashCounts", inPlace := ["internal/abi.NoEscape", "internal/bytealg.MakeNoZero"], unfollowed := true, recurses := true, apart := false }
def FlashCountsSaid : Prop := flashCountsRow.holds Try.pinned (OpenSpec.ofChange flashCountsSpec)

/-- ITS FALSE NEIGHBOUR: 'it returns false'. Refute it at one input. -/
def flashCountsWrong : ChangeSpec := { name := "flashCounts", fn := fun _ => fun
  | [d] => { results := [.lit (.bool false)], args := [d] }
  | _ => none }
def FlashCountsWrongFalsely : Prop := flashCountsRow.holds Try.pinned (OpenSpec.ofChange flashCountsWrong)

/- THE SECOND FORM. 'bulk': how many values and letters a reading holds, each counted each time it is reached (what is shared counts as often as it is met; a slice's spare places count too). A statement '..UptoSaid' is the law's where the arguments, and the package variables that the reading takes, are together of bulk at most 1048576: NARROWER than '..Said'. Prove '..Said' where nothing that the law and all that it calls make is longer than what came in: it says more and counts as full. Else prove '..UptoSaid'. A law counts once. -/
mutual
def uptoBulk {H : Type} : DataW H → Nat
  | .lit (.string bytes) => bytes.length + 1
  | .lit _ => 1
  | .nil => 1
  | .ptr d => uptoBulk d + 1
  | .slice elems spare => uptoBulkAll elems + uptoBulkAll spare + 1
  | .agg parts => uptoBulkAll parts + 1
  | .iface _ d => uptoBulk d + 1
  | .map entries => uptoBulkEntries entries + 1
  | .held _ => 1
def uptoBulkAll {H : Type} : List (DataW H) → Nat
  | [] => 0
  | d :: r => uptoBulk d + uptoBulkAll r
def uptoBulkEntries {H : Type} : List (Lit × DataW H) → Nat
  | [] => 0
  | x :: r => uptoBulkEntry x + uptoBulkEntries r
def uptoBulkEntry {H : Type} : Lit × DataW H → Nat
  | (.string bytes, d) => bytes.length + uptoBulk d + 1
  | (_, d) => uptoBulk d + 1
 end
def uptoSmall : (H : Type) → List (DataW H) → Bool := fun _ ds => decide (uptoBulkAll ds ≤ 1048576)
def OpenSpec.upto (s : _root_.Go.ChangeSpec) : _root_.Go.OpenSpec := { _root_.Go.OpenSpec.ofChange s with cond := some uptoSmall }

/-- 'additivelaw51.FlashNews', WHERE WHAT IT READS IS OF BULK AT MOST 1048576: true; the input reads as it did. -/
def flashNewsUptoRow : OpenClaim := { program := "ytabjagbdaamaaaa", sum := "7cdd751690ca10d900901c92c610b1c5495c86dbacfb92d79f188ed1e51bb315", func := "additive/additivelaw51.FlashNews", spec := "flashNews", inPlace := ["internal/abi.NoEscape", "internal/bytealg.MakeNoZero"], unfollowed := true, recurses := true, apart := false, narrowed := true }
def FlashNewsUptoSaid : Prop := flashNewsUptoRow.holds Try.pinned (OpenSpec.upto flashNewsSpec)

/-- 'additivelaw51.FlashReads', WHERE WHAT IT READS IS OF BULK AT MOST 1048576: true; the input reads as it did. -/
def flashReadsUptoRow : OpenClaim := { program := "ytabjagbdaamaaaa", sum := "7cdd751690ca10d900901c92c610b1c5495c86dbacfb92d79f188ed1e51bb315", func := "additive/additivelaw51.FlashReads", spec := "flashReads", inPlace := ["internal/abi.NoEscape", "internal/bytealg.MakeNoZero"], unfollowed := true, recurses := true, apart := false, narrowed := true }
def FlashReadsUptoSaid : Prop := flashReadsUptoRow.holds Try.pinned (OpenSpec.upto flashReadsSpec)

/-- 'additivelaw51.FlashWrites', WHERE WHAT IT READS IS OF BULK AT MOST 1048576: true; the input reads as it did. -/
def flashWritesUptoRow : OpenClaim := { program := "ytabjagbdaamaaaa", sum := "7cdd751690ca10d900901c92c610b1c5495c86dbacfb92d79f188ed1e51bb315", func := "additive/additivelaw51.FlashWrites", spec := "flashWrites", inPlace := ["internal/abi.NoEscape", "internal/bytealg.MakeNoZero"], unfollowed := true, recurses := true, apart := false, narrowed := true }
def FlashWritesUptoSaid : Prop := flashWritesUptoRow.holds Try.pinned (OpenSpec.upto flashWritesSpec)

/-- 'additivelaw51.FlashFails', WHERE WHAT IT READS IS OF BULK AT MOST 1048576: true; the input reads as it did. -/
def flashFailsUptoRow : OpenClaim := { program := "ytabjagbdaamaaaa", sum := "7cdd751690ca10d900901c92c610b1c5495c86dbacfb92d79f188ed1e51bb315", func := "additive/additivelaw51.FlashFails", spec := "flashFails", inPlace := ["internal/abi.NoEscape", "internal/bytealg.MakeNoZero"], unfollowed := true, recurses := true, apart := false, narrowed := true }
def FlashFailsUptoSaid : Prop := flashFailsUptoRow.holds Try.pinned (OpenSpec.upto flashFailsSpec)

/-- 'additivelaw51.FlashTorn', WHERE WHAT IT READS IS OF BULK AT MOST 1048576: true; the input reads as it did. -/
def flashTornUptoRow : OpenClaim := { program := "ytabjagbdaamaaaa", sum := "7cdd751690ca10d900901c92c610b1c5495c86dbacfb92d79f188ed1e51bb315", func := "additive/additivelaw51.FlashTorn", spec := "flashTorn", inPlace := ["internal/abi.NoEscape", "internal/bytealg.MakeNoZero"], unfollowed := true, recurses := true, apart := false, narrowed := true }
def FlashTornUptoSaid : Prop := flashTornUptoRow.holds Try.pinned (OpenSpec.upto flashTornSpec)

/-- 'additivelaw51.FlashCounts', WHERE WHAT IT READS IS OF BULK AT MOST 1048576: true; the input reads as it did. -/
def flashCountsUptoRow : OpenClaim := { program := "ytabjagbdaamaaaa", sum := "7cdd751690ca10d900901c92c610b1c5495c86dbacfb92d79f188ed1e51bb315", func := "additive/additivelaw51.FlashCounts", spec := "flashCounts", inPlace := ["internal/abi.NoEscape", "internal/bytealg.MakeNoZero"], unfollowed := true, recurses := true, apart := false, narrowed := true }
def FlashCountsUptoSaid : Prop := flashCountsUptoRow.holds Try.pinned (OpenSpec.upto flashCountsSpec)

end Rows
end Go.Proofs.Ytabjagbdaamaaaa
