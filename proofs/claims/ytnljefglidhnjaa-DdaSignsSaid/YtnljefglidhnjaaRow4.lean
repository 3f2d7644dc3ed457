/-
  A block of four ints. No program is named here.
-/
import Derived.Test.YtnljefglidhnjaaExt
namespace Go.Proofs.Ytnljefglidhnjaa
open Go.RowKit
/-- Block p holds four ints, and may be written. -/
def Row4 (w : World) (p : Nat) (x0 x1 x2 x3 : Int) : Prop :=
  w.cell? ⟨p, 0, none⟩ = some (.int .i64 x0) ∧ w.cell? ⟨p, 1, none⟩ = some (.int .i64 x1) ∧ w.cell? ⟨p, 2, none⟩ = some (.int .i64 x2) ∧ w.cell? ⟨p, 3, none⟩ = some (.int .i64 x3) ∧ (∀ o, w.frozen? ⟨p, o, none⟩ = false) ∧ p < w.heap.size
end Go.Proofs.Ytnljefglidhnjaa

