/-
  What stays of memory behind a call that makes new blocks at most, as two rules; vectors of three ints: what is small, differences, products. No program is named here.
-/
import Derived.Test.YtacgchandefjgaaBase
import Derived.Test.YtacgchandefjgaaArith
import Derived.WalkLawsBesides
import Derived.ProofKit
import Derived.Lib.Hide
namespace Go.Proofs.Ytacgchandefjgaa
open Go.RowKit
theorem bcell {W w1 : World} (hb : Ext W w1) : (∀ b o, b < W.heap.size → w1.cell? ⟨b, o, none⟩ = W.cell? ⟨b, o, none⟩) ∧ (∀ b o, b < W.heap.size → w1.frozen? ⟨b, o, none⟩ = W.frozen? ⟨b, o, none⟩) :=
  ⟨fun b o h => Below.cell hb.toBelow (p := ⟨b, o, none⟩) h, fun b o h => Below.frozen hb.toBelow (p := ⟨b, o, none⟩) h⟩
theorem cell_lt {w : World} {a : Addr} {v : Value} (h : w.cell? a = some v) : a.block < w.heap.size := by
  rcases Nat.lt_or_ge a.block w.heap.size with h' | h'
  · exact h'
  · simp [World.cell?, Array.getElem?_eq_none h'] at h
theorem Ext.keep {W w1 : World} (h : Ext W w1) {a : Addr} {v : Value} (hc : W.cell? a = some v) : w1.cell? a = some v := by
  rw [Below.cell h.toBelow (cell_lt hc)]; exact hc
theorem ret_b {a b : Bool} (h : a = b) : Ending.returned (.bool a) = .returned (.bool b) := by rw [h]
theorem ret_v {x y z x' y' z' : Int} (h1 : x = x') (h2 : y = y') (h3 : z = z') : Ending.returned (.agg #[.int .i64 x, .int .i64 y, .int .i64 z]) = .returned (.agg #[.int .i64 x', .int .i64 y', .int .i64 z']) := by rw [h1, h2, h3]
theorem mul_in {a b k m : Int} (a0 : -k ≤ a) (a1 : a ≤ k) (b0 : -m ≤ b) (b1 : b ≤ m) : -(k * m) ≤ a * b ∧ a * b ≤ k * m := by
  have hk : 0 ≤ k := by omega
  have hm : 0 ≤ m := by omega
  have main : ∀ a : Int, 0 ≤ a → a ≤ k → -(k * m) ≤ a * b ∧ a * b ≤ k * m := fun a h0 h1 => by
    have e1 := Int.mul_le_mul_of_nonneg_left b1 h0
    have e2 := Int.mul_le_mul_of_nonneg_left b0 h0
    have e3 := Int.mul_le_mul_of_nonneg_right h1 hm
    rw [Int.mul_neg] at e2
    omega
  rcases Int.le_total 0 a with h | h
  · exact main a h a1
  · have := main (-a) (by omega) (by omega)
    rw [Int.neg_mul] at this
    omega
/-- A vector whose coordinates are at most k in size. -/
def In3 (k x y z : Int) : Prop := -k ≤ x ∧ x ≤ k ∧ -k ≤ y ∧ y ≤ k ∧ -k ≤ z ∧ z ≤ k
instance (k x y z : Int) : Decidable (In3 k x y z) := inferInstanceAs (Decidable (_ ∧ _))
/-- (r, s, q) is what Sub answers. -/
def SubIs (x y z u v t r s q : Int) : Prop := (In3 65536 x y z ∧ In3 65536 u v t ∧ r = x - u ∧ s = y - v ∧ q = z - t) ∨ (¬ (In3 65536 x y z ∧ In3 65536 u v t) ∧ r = 0 ∧ s = 0 ∧ q = 0)
def CrossIs (x y z u v t r s q : Int) : Prop := (In3 131072 x y z ∧ In3 131072 u v t ∧ r = y * t - z * v ∧ s = z * u - x * t ∧ q = x * v - y * u) ∨ (¬ (In3 131072 x y z ∧ In3 131072 u v t) ∧ r = 0 ∧ s = 0 ∧ q = 0)
def DotIs (x y z u v t r : Int) : Prop := (In3 131072 x y z ∧ In3 1099511627776 u v t ∧ r = x * u + y * v + z * t) ∨ (¬ (In3 131072 x y z ∧ In3 1099511627776 u v t) ∧ r = 0)
theorem subIs_ex (x y z u v t : Int) : ∃ r s q, SubIs x y z u v t r s q := by
  by_cases h : In3 65536 x y z ∧ In3 65536 u v t
  · exact ⟨_, _, _, .inl ⟨h.1, h.2, rfl, rfl, rfl⟩⟩
  · exact ⟨_, _, _, .inr ⟨h, rfl, rfl, rfl⟩⟩
theorem crossIs_ex (x y z u v t : Int) : ∃ r s q, CrossIs x y z u v t r s q := by
  by_cases h : In3 131072 x y z ∧ In3 131072 u v t
  · exact ⟨_, _, _, .inl ⟨h.1, h.2, rfl, rfl, rfl⟩⟩
  · exact ⟨_, _, _, .inr ⟨h, rfl, rfl, rfl⟩⟩
theorem dotIs_ex (x y z u v t : Int) : ∃ r, DotIs x y z u v t r := by
  by_cases h : In3 131072 x y z ∧ In3 1099511627776 u v t
  · exact ⟨_, .inl ⟨h.1, h.2, rfl⟩⟩
  · exact ⟨_, .inr ⟨h, rfl⟩⟩
/-- By X, then Y, then Z. -/
def Less3 (x y z u v t : Int) : Prop := x < u ∨ (x = u ∧ (y < v ∨ (y = v ∧ z < t)))
instance (x y z u v t : Int) : Decidable (Less3 x y z u v t) := inferInstanceAs (Decidable (_ ∨ _))
end Go.Proofs.Ytacgchandefjgaa

