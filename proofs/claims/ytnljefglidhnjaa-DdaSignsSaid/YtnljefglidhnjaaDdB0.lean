/-
  Contracts of package dda and of the document's own answers: the steps after i steps of the dominant motor.
-/
import Derived.Test.YtnljefglidhnjaaDdA
namespace Go.Proofs.Ytnljefglidhnjaa
open Go.RowKit
/-- What a motor with c steps of n has made after j. -/
def atv (c n j : Int) : Int := if c < 0 then -((2 * j * max c (-c) + n) / (2 * n)) else (2 * j * max c (-c) + n) / (2 * n)
def AtIs (a b c d i A0 A1 A2 A3 : Int) : Prop := (DVal a b c d ∧ A0 = atv a (dom a b c d) (max 0 (min i (dom a b c d))) ∧ A1 = atv b (dom a b c d) (max 0 (min i (dom a b c d))) ∧ A2 = atv c (dom a b c d) (max 0 (min i (dom a b c d))) ∧ A3 = atv d (dom a b c d) (max 0 (min i (dom a b c d)))) ∨ (¬ DVal a b c d ∧ A0 = 0 ∧ A1 = 0 ∧ A2 = 0 ∧ A3 = 0)
theorem atIs_ex (a b c d i : Int) : ∃ A0 A1 A2 A3, AtIs a b c d i A0 A1 A2 A3 := by
  by_cases h : DVal a b c d
  · exact ⟨_, _, _, _, .inl ⟨h, rfl, rfl, rfl, rfl⟩⟩
  · exact ⟨_, _, _, _, .inr ⟨h, rfl, rfl, rfl, rfl⟩⟩
theorem dom_range {a b c d : Int} (h : DVal a b c d) : 1 ≤ dom a b c d ∧ dom a b c d ≤ 16777216 ∧ max a (-a) ≤ dom a b c d ∧ max b (-b) ≤ dom a b c d ∧ max c (-c) ≤ dom a b c d ∧ max d (-d) ≤ dom a b c d := by
  unfold DVal at h; unfold dom; omega
/-- The parts of one motor's walk: the product, the quotient, the sign. -/
theorem at_parts {x n j A : Int} (x0 : -16777216 ≤ x) (x1 : x ≤ 16777216) (n0 : 1 ≤ n) (n1 : n ≤ 16777216) (j0 : 0 ≤ j) (j1 : j ≤ n) (h : A = atv x n j) :
    ∃ q, (0 ≤ 2 * j * max x (-x) ∧ 2 * j * max x (-x) ≤ 562949953421312) ∧ (2 * j * max x (-x) + n).tdiv (2 * n) = q ∧ 0 ≤ q ∧ q ≤ 562949970198528 ∧ ((decide (x < 0) = true ∧ -q = A) ∨ (decide (x < 0) = false ∧ q = A)) := by
  have m := mul_in (a := 2 * j) (b := max x (-x)) (k := 33554432) (m := 16777216) (by omega) (by omega) (by omega) (by omega)
  have p := Int.mul_nonneg (show 0 ≤ 2 * j by omega) (show 0 ≤ max x (-x) by omega)
  have hq : (2 * j * max x (-x) + n).tdiv (2 * n) = (2 * j * max x (-x) + n) / (2 * n) := Int.tdiv_eq_ediv_of_nonneg (by omega)
  have q0 : 0 ≤ (2 * j * max x (-x) + n) / (2 * n) := Int.ediv_nonneg (by omega) (by omega)
  have q1 : (2 * j * max x (-x) + n) / (2 * n) ≤ 2 * j * max x (-x) + n := Int.ediv_le_self _ (by omega)
  refine ⟨_, ⟨p, by omega⟩, hq, q0, by omega, ?_⟩
  unfold atv at h
  by_cases hx : x < 0
  · rw [if_pos hx] at h; exact .inl ⟨dlt_t hx, h.symm⟩
  · rw [if_neg hx] at h; exact .inr ⟨dlt_f (by omega), h.symm⟩
end Go.Proofs.Ytnljefglidhnjaa

