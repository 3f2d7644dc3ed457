/-
  What stays of memory behind a call that makes new blocks at most, as two rules; vectors of three ints: what is small, differences, products. No program is named here.
-/
import Derived.Test.YtdoodmapmhibhaaBase
import Derived.Test.YtdoodmapmhibhaaArith
import Derived.WalkLawsBesides
import Derived.ProofKit
import Derived.Lib.Hide
namespace Go.Proofs.Ytdoodmapmhibhaa
open Go.RowKit
theorem bcell {W w1 : World} (hb : Ext W w1) : (∀ b o, b < W.heap.size → w1.cell? ⟨b, o, none⟩ = W.cell? ⟨b, o, none⟩) ∧ (∀ b o, b < W.heap.size → w1.frozen? ⟨b, o, none⟩ = W.frozen? ⟨b, o, none⟩) :=
  ⟨fun b o h => Below.cell hb.toBelow (p := ⟨b, o, none⟩) h, fun b o h => Below.frozen hb.toBelow (p := ⟨b, o, none⟩) h⟩
theorem cell_lt {w : World} {a : Addr} {v : Value} (h : w.cell? a = some v) : a.block < w.heap.size := by
  rcases Nat.lt_or_ge a.block w.heap.size with h' | h'
  · exact h'
  · simp [World.cell?, Array.getElem?_eq_none h'] at h
theorem Ext.keep {W w1 : World} (h : Ext W w1) {a : Addr} {v : Value} (hc : W.cell? a = some v) : w1.cell? a = some v := by
  rw [Below.cell h.toBelow (cell_lt hc)]; exact hc
/-- A vector whose coordinates are at most k in size. -/
def In3 (k x y z : Int) : Prop := -k ≤ x ∧ x ≤ k ∧ -k ≤ y ∧ y ≤ k ∧ -k ≤ z ∧ z ≤ k
instance (k x y z : Int) : Decidable (In3 k x y z) := inferInstanceAs (Decidable (_ ∧ _))
/-- By X, then Y, then Z. -/
def Less3 (x y z u v t : Int) : Prop := x < u ∨ (x = u ∧ (y < v ∨ (y = v ∧ z < t)))
instance (x y z u v t : Int) : Decidable (Less3 x y z u v t) := inferInstanceAs (Decidable (_ ∨ _))
end Go.Proofs.Ytdoodmapmhibhaa

