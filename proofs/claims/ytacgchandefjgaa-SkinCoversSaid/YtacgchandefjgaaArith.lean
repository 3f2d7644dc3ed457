/-
  Plain arithmetic for the contracts of package num: the range of an int, floors of quotients, and when a sum wraps. No program is named here.
-/
import Derived.WalkKit
namespace Go.Proofs.Ytacgchandefjgaa
open Go.RowKit
/-- A number with OK if it is an int, else 0 with ErrOverflow. -/
def fit (x : Int) : Int × Int := if -9223372036854775808 ≤ x ∧ x ≤ 9223372036854775807 then (x, 0) else (0, 3)
/-- The floor of a / b. -/
def fl (a b : Int) : Int := if 0 < b then a / b else (-a) / (-b)
/-- What Floor and MulDiv answer for the exact numerator n. -/
def quo (n c : Int) : Int × Int := if c = 0 then (0, 4) else fit (fl n c)
/-- What Round answers. -/
def rnd (a b : Int) : Int × Int := if b = 0 then (0, 4) else fit (fl (2 * a + b) (2 * b))
/-- An ending with a number and an error number. -/
def Res (p : Int × Int) : Ending := .returned (.tuple #[.int .i64 p.1, .int .i64 p.2])
theorem fit_in {s : Int} (h0 : -9223372036854775808 ≤ s) (h1 : s ≤ 9223372036854775807) : fit s = (s, 0) := if_pos ⟨h0, h1⟩
theorem fit_out {s : Int} (h : s < -9223372036854775808 ∨ 9223372036854775807 < s) : fit s = (0, 3) := if_neg (by omega)
theorem fit_range (s : Int) : -9223372036854775808 ≤ (fit s).1 ∧ (fit s).1 ≤ 9223372036854775807 := by
  unfold fit; split <;> simp <;> omega
theorem res_of {p : Int × Int} {x y : Int} (h : p = (x, y)) : Ending.returned (.tuple #[.int .i64 x, .int .i64 y]) = Res p := by rw [h]; rfl
theorem ret1 {k : IntKind} {a b : Int} (h : a = b) : Ending.returned (.int k a) = .returned (.int k b) := by rw [h]
theorem ret2 {k l : IntKind} {a b c d : Int} (h : a = b) (g : c = d) : Ending.returned (.tuple #[.int k a, .int l c]) = .returned (.tuple #[.int k b, .int l d]) := by rw [h, g]
theorem ret3 {k l m : IntKind} {a b c d x y : Int} (h : a = b) (g : c = d) (i : x = y) : Ending.returned (.tuple #[.int k a, .int l c, .int m x]) = .returned (.tuple #[.int k b, .int l d, .int m y]) := by rw [h, g, i]
theorem wrap_hi {n : Int} (h0 : 9223372036854775807 < n) (h1 : n ≤ 18446744073709551615) : wrap64 n < 0 := by unfold wrap64; omega
theorem wrap_lo {n : Int} (h0 : n < -9223372036854775808) (h1 : -18446744073709551616 ≤ n) : 0 ≤ wrap64 n := by unfold wrap64; omega
theorem wrap_hi_lt {n a : Int} (h0 : 9223372036854775807 < n) (h1 : n ≤ 18446744073709551615) (h2 : n - 18446744073709551616 < a) : wrap64 n < a := by unfold wrap64; omega
theorem wrap_lo_gt {n a : Int} (h0 : n < -9223372036854775808) (h1 : -18446744073709551616 ≤ n) (h2 : a < n + 18446744073709551616) : a < wrap64 n := by unfold wrap64; omega
theorem dlt_t {a b : Int} (h : a < b) : decide (a < b) = true := decide_eq_true h
theorem dlt_f {a b : Int} (h : b ≤ a) : decide (a < b) = false := decide_eq_false (by omega)
theorem dle_t {a b : Int} (h : a ≤ b) : decide (a ≤ b) = true := decide_eq_true h
theorem dle_f {a b : Int} (h : b < a) : decide (a ≤ b) = false := decide_eq_false (by omega)
theorem beq_t {a b : Int} (h : a = b) : (a == b) = true := by simp [h]
theorem beq_f {a b : Int} (h : a ≠ b) : (a == b) = false := by simp [h]
theorem bne_t {a b : Int} (h : a ≠ b) : (a != b) = true := by simp [h]
theorem bne_f {a b : Int} (h : a = b) : (a != b) = false := by simp [h]
theorem sign_cases (a : Int) : (a < 0 ∧ decide (a < 0) = true) ∨ (0 ≤ a ∧ decide (a < 0) = false) := by
  by_cases h : a < 0
  · exact .inl ⟨h, dlt_t h⟩
  · exact .inr ⟨by omega, dlt_f (by omega)⟩

/-! ### Floors -/
/-- The quotient and the rest, the rest with the sign of the divisor, are the floor and what it leaves. -/
theorem fl_of {a b q r : Int} (h : a = b * q + r) (hr : (0 ≤ r ∧ r < b) ∨ (b < r ∧ r ≤ 0)) : fl a b = q := by
  unfold fl
  rcases hr with ⟨h0, h1⟩ | ⟨h0, h1⟩
  · rw [if_pos (by omega)]
    exact ((Int.ediv_emod_unique (by omega)).2 ⟨by omega, h0, h1⟩).1
  · rw [if_neg (by omega)]
    refine ((Int.ediv_emod_unique (a := -a) (b := -b) (r := -r) (q := q) (by omega)).2 ⟨?_, by omega, by omega⟩).1
    rw [Int.neg_mul]; omega
theorem exists_fl (a b : Int) (hb : b ≠ 0) : ∃ q r, a = b * q + r ∧ ((0 ≤ r ∧ r < b) ∨ (b < r ∧ r ≤ 0)) := by
  by_cases h : 0 < b
  · exact ⟨a / b, a % b, (Int.mul_ediv_add_emod a b).symm, .inl ⟨Int.emod_nonneg _ hb, Int.emod_lt_of_pos _ h⟩⟩
  · have h1 := Int.mul_ediv_add_emod (-a) (-b)
    have h2 := Int.emod_nonneg (-a) (b := -b) (by omega)
    have h3 := Int.emod_lt_of_pos (-a) (b := -b) (by omega)
    rw [Int.neg_mul] at h1
    exact ⟨-a / -b, -(-a % -b), by omega, .inr ⟨by omega, by omega⟩⟩
/-- Quotient and rest are those of the floor, in Go's terms: t and m are what Go's division gives. -/
theorem fl_go {a b q r t m : Int} (h : a = b * q + r) (hr : (0 ≤ r ∧ r < b) ∨ (b < r ∧ r ≤ 0)) (g : a = b * t + m) (m2 : m < b.natAbs) (m3 : -(b.natAbs : Int) < m) :
    (m = 0 ∧ q = t ∧ r = m) ∨ (m ≠ 0 ∧ decide (m < 0) = decide (b < 0) ∧ q = t ∧ r = m) ∨ (m ≠ 0 ∧ decide (m < 0) = (!decide (b < 0)) ∧ q = t - 1 ∧ r = m + b) := by
  have hq := fl_of h hr
  have hb : b ≠ 0 := by omega
  have same : ((0 ≤ m ∧ m < b) ∨ (b < m ∧ m ≤ 0)) → q = t ∧ r = m := fun hm => by
    have e : q = t := hq.symm.trans (fl_of g hm)
    subst e; exact ⟨rfl, by omega⟩
  have less : ((0 ≤ m + b ∧ m + b < b) ∨ (b < m + b ∧ m + b ≤ 0)) → q = t - 1 ∧ r = m + b := fun hm => by
    have e : q = t - 1 := hq.symm.trans (fl_of (q := t - 1) (r := m + b) (by rw [Int.mul_sub]; omega) hm)
    subst e; rw [Int.mul_sub] at h; exact ⟨rfl, by omega⟩
  by_cases hm : m = 0
  · exact .inl ⟨hm, same (by omega)⟩
  · by_cases ms : m < 0 <;> by_cases bs : b < 0
    · exact .inr (.inl ⟨hm, by rw [dlt_t ms, dlt_t bs], same (by omega)⟩)
    · exact .inr (.inr ⟨hm, by rw [dlt_t ms, dlt_f (by omega)]; rfl, less (by omega)⟩)
    · exact .inr (.inr ⟨hm, by rw [dlt_f (by omega), dlt_t bs]; rfl, less (by omega)⟩)
    · exact .inr (.inl ⟨hm, by rw [dlt_f (a := m) (by omega), dlt_f (a := b) (by omega)], same (by omega)⟩)
theorem ediv_size (x c : Int) (hc : 1 ≤ c) : (0 ≤ x → 0 ≤ x / c ∧ x / c ≤ x ∧ (2 ≤ c → x / c ≤ x / 2)) ∧ (x < 0 → x ≤ x / c ∧ x / c < 0) := by
  refine ⟨fun h => ⟨Int.ediv_nonneg h (by omega), Int.ediv_le_self _ h, fun h2 => ?_⟩, fun h => ⟨?_, Int.ediv_neg_of_neg_of_pos h (by omega)⟩⟩
  · have := Int.mul_ediv_add_emod x c
    have := Int.emod_nonneg x (b := c) (by omega)
    have hp : 0 ≤ x / c := Int.ediv_nonneg h (by omega)
    have : 2 * (x / c) ≤ c * (x / c) := Int.mul_le_mul_of_nonneg_right h2 hp
    omega
  · refine Int.le_ediv_of_mul_le (by omega) ?_
    have := Int.mul_le_mul_of_nonpos_left (a := x) (b := c) (c := 1) (by omega) hc
    omega
/-- The floor of a quotient of ints is an int, but for one case. -/
theorem fl_range (a b : Int) (a0 : -9223372036854775808 ≤ a) (a1 : a ≤ 9223372036854775807) (hb : b ≠ 0) (h : ¬ (a = -9223372036854775808 ∧ b = -1)) : -9223372036854775808 ≤ fl a b ∧ fl a b ≤ 9223372036854775807 := by
  unfold fl
  split
  · obtain ⟨x, y⟩ := ediv_size a b (by omega)
    by_cases ha : 0 ≤ a
    · have := x ha; omega
    · have := y (by omega); omega
  · obtain ⟨x, y⟩ := ediv_size (-a) (-b) (by omega)
    by_cases ha : 0 ≤ -a
    · obtain ⟨u, v, z⟩ := x ha
      by_cases h2 : 2 ≤ -b
      · have := z h2; omega
      · omega
    · have := y (by omega); omega
/-- What rounding adds to the floor. -/
theorem rnd_of {a b q r : Int} (a0 : -9223372036854775808 ≤ a) (a1 : a ≤ 9223372036854775807) (hb : b ≠ 0) (hov : ¬ (a = -9223372036854775808 ∧ b = -1)) (h : a = b * q + r) (hr : (0 ≤ r ∧ r < b) ∨ (b < r ∧ r ≤ 0)) :
    (((b - r ≤ r ∧ 0 < b) ∨ (r ≤ b - r ∧ b < 0)) ∧ rnd a b = (q + 1, 0) ∧ q + 1 ≤ 9223372036854775807) ∨ (((r < b - r ∧ 0 < b) ∨ (b - r < r ∧ b < 0)) ∧ rnd a b = (q, 0)) := by
  have hf := fl_of h hr
  have hq := fl_range a b a0 a1 hb hov
  rw [hf] at hq
  have h2 : 2 * b ≠ 0 := by omega
  have e1 : 2 * a + b = 2 * b * q + (2 * r + b) := by rw [h, Int.mul_add, Int.mul_assoc]; omega
  have e2 : 2 * a + b = 2 * b * (q + 1) + (2 * r - b) := by rw [h, Int.mul_add (2 * b), Int.mul_add, Int.mul_assoc]; omega
  by_cases c : (b - r ≤ r ∧ 0 < b) ∨ (r ≤ b - r ∧ b < 0)
  · have hf2 := fl_of e2 (by omega)
    have hm : q + 1 ≤ 9223372036854775807 := by
      unfold fl at hf
      split at hf
      · obtain ⟨x, y⟩ := ediv_size a b (by omega)
        by_cases ha : 0 ≤ a
        · have := (x ha).2.2 (by omega); omega
        · have := y (by omega); omega
      · obtain ⟨x, y⟩ := ediv_size (-a) (-b) (by omega)
        by_cases ha : 0 ≤ -a
        · have := (x ha).2.2 (by omega); omega
        · have := y (by omega); omega
    exact .inl ⟨c, by unfold rnd; rw [if_neg hb, hf2, fit_in (by omega) hm], hm⟩
  · have hf2 := fl_of e1 (by omega)
    exact .inr ⟨by omega, by unfold rnd; rw [if_neg hb, hf2, fit_in (by omega) (by omega)]⟩
/-- Go's quotient and rest, and the sizes of both. -/
theorem tdiv_parts (a b : Int) (hb : b ≠ 0) : a = b * a.tdiv b + a.tmod b ∧ (0 ≤ a → 0 ≤ a.tmod b) ∧ (a ≤ 0 → a.tmod b ≤ 0) ∧ a.tmod b < b.natAbs ∧ -(b.natAbs : Int) < a.tmod b := by
  have h := Int.mul_tdiv_add_tmod a b
  have hm : (a.tmod b).natAbs < b.natAbs := by rw [Int.natAbs_tmod]; exact Nat.mod_lt _ (by omega)
  refine ⟨by omega, fun h0 => Int.tmod_nonneg b h0, fun h0 => ?_, by omega, by omega⟩
  have := Int.tmod_nonneg b (a := -a) (by omega)
  rw [Int.neg_tmod] at this
  omega
/-- The size of Go's quotient. -/
theorem tdiv_size (a b : Int) (hb : b ≠ 0) (a0 : -9223372036854775808 ≤ a) (a1 : a ≤ 9223372036854775807) (h : ¬ (a = -9223372036854775808 ∧ b = -1)) :
    -9223372036854775808 ≤ a.tdiv b ∧ a.tdiv b ≤ 9223372036854775807 := by
  have hn : (a.tdiv b).natAbs ≤ a.natAbs := by rw [Int.natAbs_tdiv]; exact Nat.div_le_self _ _
  by_cases he : a = -9223372036854775808
  · have hb1 : b ≠ -1 := fun e => h ⟨he, e⟩
    by_cases h1 : b = 1
    · subst h1; rw [Int.tdiv_one]; omega
    · have h2 : 2 ≤ b.natAbs := by omega
      have hn' : (a.tdiv b).natAbs ≤ a.natAbs / 2 := by rw [Int.natAbs_tdiv]; exact Nat.div_le_div_left h2 (by omega)
      omega
  · omega
end Go.Proofs.Ytacgchandefjgaa
