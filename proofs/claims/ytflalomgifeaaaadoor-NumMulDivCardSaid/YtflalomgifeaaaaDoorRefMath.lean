/-
  The plain arithmetic of the document's long division, bit by bit. No program is named here.
-/
import Derived.Test.YtflalomgifeaaaaDoorKnuth
import Derived.Lib.Mul64
namespace Go.Proofs.YtflalomgifeaaaaDoor
open Go.RowKit
/-- Behind k rounds: q is the quotient of the bits that were shifted in, r what it leaves, low the bits that wait. -/
structure QRel (N d : Int) (k : Nat) (low q r : Int) : Prop where
  ex : ∃ l : Int, 0 ≤ l ∧ l < 2 ^ (64 - k) ∧ low = l * 2 ^ k ∧ (q * d + r) * 2 ^ (64 - k) + l = N
  r0 : 0 ≤ r
  r1 : r < d
  q0 : 0 ≤ q
  q1 : q < 2 ^ k
theorem QRel.start {hi lo d : Int} (h0 : 0 ≤ hi) (h : hi < d) (l0 : 0 ≤ lo) (l1 : lo < 18446744073709551616) : QRel (hi * 18446744073709551616 + lo) d 0 lo 0 hi :=
  ⟨⟨lo, l0, by simpa using l1, by simp, by simp⟩, h0, h, by omega, by simp⟩
theorem pow_le63 {k : Nat} (h : k < 64) : (2 : Int) ^ k ≤ 9223372036854775808 := by
  have : (2 : Nat) ^ k ≤ 2 ^ 63 := Nat.pow_le_pow_right (by omega) (by omega)
  have e : ((2 ^ k : Nat) : Int) = 2 ^ k := by simp
  rw [← e]; exact Int.ofNat_le.2 (Nat.le_trans this (by decide))
theorem QRel.q63 {N d : Int} {k : Nat} {low q r : Int} (h : QRel N d k low q r) (hk : k < 64) : q < 9223372036854775808 := by
  have := h.q1; have := pow_le63 hk; omega
theorem QRel.low64 {N d : Int} {k : Nat} {low q r : Int} (h : QRel N d k low q r) (hk : k ≤ 64) : 0 ≤ low ∧ low < 18446744073709551616 := by
  obtain ⟨l, l0, l1, e, _⟩ := h.ex
  have p : (0 : Int) < 2 ^ k := Int.pow_pos (by omega)
  have e2 : (2 : Int) ^ (64 - k) * 2 ^ k = 18446744073709551616 := by rw [← Int.pow_add, show 64 - k + k = 64 by omega]; decide
  have := Int.mul_lt_mul_of_pos_right l1 p
  rw [e, ← e2]
  exact ⟨Int.mul_nonneg l0 (by omega), this⟩
theorem qstep {N d l t u q r : Int} (t1 : 1 ≤ t) (u1 : 1 ≤ u) (tu : t * u = 9223372036854775808) (l0 : 0 ≤ l) (l1 : l < 2 * t) (hN : (q * d + r) * (2 * t) + l = N) :
    0 ≤ l * u / 9223372036854775808 ∧ l * u / 9223372036854775808 ≤ 1 ∧ ∃ m, 0 ≤ m ∧ m < t ∧ IntKind.u64.wrap (l * u * 2) = m * (u * 2) ∧ (2 * (q * d + r) + l * u / 9223372036854775808) * t + m = N := by
  have eb : l * u / 9223372036854775808 = l / t := by rw [← tu]; exact Int.mul_ediv_mul_of_pos_left l t (by omega)
  have l2 := Int.mul_ediv_add_emod l t
  have l3 := Int.emod_nonneg l (b := t) (by omega)
  have l4 := Int.emod_lt_of_pos l (show 0 < t by omega)
  have b0 : 0 ≤ l / t := Int.ediv_nonneg l0 (by omega)
  have b1 : l / t < 2 := Int.ediv_lt_of_lt_mul (by omega) (by omega)
  rw [eb]
  generalize l / t = b at *
  generalize l % t = m at *
  refine ⟨b0, by omega, m, l3, l4, ?_, ?_⟩
  · have m0 : 0 ≤ m * u := Int.mul_nonneg l3 (by omega)
    have m1 : m * u < 9223372036854775808 := by rw [← tu]; exact Int.mul_lt_mul_of_pos_right l4 (by omega)
    have e : l * u = b * 9223372036854775808 + m * u := by
      rw [← l2, Int.add_mul, Int.mul_comm t b, Int.mul_assoc, tu]
    rw [e, ← Int.mul_assoc, IntKind.wrap_u64]
    generalize m * u = z at *
    omega
  · rw [← hN, ← l2, Int.add_mul, ← Int.mul_assoc (q * d + r) 2 t, Int.mul_comm (q * d + r) 2, Int.mul_comm t b]
    omega
theorem QRel.step {N d : Int} {k : Nat} {low q r : Int} (h : QRel N d k low q r) (hk : k < 64) :
    0 ≤ low / 9223372036854775808 ∧ low / 9223372036854775808 ≤ 1 ∧
    (d ≤ r * 2 + low / 9223372036854775808 → QRel N d (k + 1) (IntKind.u64.wrap (low * 2)) (q * 2 + 1) (r * 2 + low / 9223372036854775808 - d)) ∧
    (r * 2 + low / 9223372036854775808 < d → QRel N d (k + 1) (IntKind.u64.wrap (low * 2)) (q * 2) (r * 2 + low / 9223372036854775808)) := by
  obtain ⟨l, l0, l1, e, hN⟩ := h.ex
  have et : (2 : Int) ^ (64 - k) = 2 * 2 ^ (63 - k) := by rw [show 64 - k = (63 - k) + 1 by omega, Int.pow_succ]; omega
  have eu : (2 : Int) ^ (k + 1) = 2 ^ k * 2 := Int.pow_succ _ _
  have etu : (2 : Int) ^ (63 - k) * 2 ^ k = 9223372036854775808 := by rw [← Int.pow_add, show 63 - k + k = 63 by omega]; decide
  have t1 : (0 : Int) < 2 ^ (63 - k) := Int.pow_pos (by omega)
  have u1 : (0 : Int) < 2 ^ k := Int.pow_pos (by omega)
  have q1 := h.q1; have q0 := h.q0; have r0 := h.r0; have r1 := h.r1
  rw [et] at l1 hN
  subst e
  obtain ⟨b0, b1, m, m0, m1, ew, em⟩ := qstep (by omega) (by omega) etu l0 l1 hN
  refine ⟨b0, b1, fun hd => ⟨⟨m, m0, ?_, ?_, ?_⟩, by omega, by omega, by omega, ?_⟩, fun hd => ⟨⟨m, m0, ?_, ?_, ?_⟩, by omega, by omega, by omega, ?_⟩⟩
  · rw [show 64 - (k + 1) = 63 - k by omega]; exact m1
  · rw [eu]; exact ew
  · rw [show 64 - (k + 1) = 63 - k by omega, ← em]
    generalize l * 2 ^ k / 9223372036854775808 = b at *
    have c : (q * 2 + 1) * d = q * d * 2 + d := by rw [Int.add_mul, Int.mul_right_comm q 2 d]; omega
    rw [show (q * 2 + 1) * d + (r * 2 + b - d) = 2 * (q * d + r) + b by omega]
  · rw [eu]; omega
  · rw [show 64 - (k + 1) = 63 - k by omega]; exact m1
  · rw [eu]; exact ew
  · rw [show 64 - (k + 1) = 63 - k by omega, ← em]
    generalize l * 2 ^ k / 9223372036854775808 = b at *
    have c : q * 2 * d = q * d * 2 := Int.mul_right_comm q 2 d
    rw [show q * 2 * d + (r * 2 + b) = 2 * (q * d + r) + b by omega]
  · rw [eu]; omega
theorem QRel.last {N d low q r : Int} (h : QRel N d 64 low q r) : N / d = q ∧ N % d = r := by
  obtain ⟨l, l0, l1, e, hN⟩ := h.ex
  have hl : l = 0 := by simp at l1; omega
  subst hl
  have hN' : q * d + r = N := by simpa using hN
  have := h.r0; have := h.r1
  exact (Int.ediv_emod_unique (by omega)).2 ⟨by rw [Int.mul_comm]; omega, h.r0, h.r1⟩
theorem or_bit (r b : Int) (r0 : 0 ≤ r) (r1 : r < 9223372036854775808) (b0 : 0 ≤ b) (b1 : b ≤ 1) : bits .or .u64 (r * 2) b = r * 2 + b :=
  oru 1 r b r0 b0 (by omega) (by omega) (by omega)
/-- The school method's product: with the halves' four products under names. -/
theorem prod_parts (x y : Nat) (hx : x < 18446744073709551616) (hy : y < 18446744073709551616) :
    ∃ x1 x0 y1 y0 m0 : Int, (x : Int) / 4294967296 = x1 ∧ bits .and .u64 (x : Int) 4294967295 = x0 ∧ (y : Int) / 4294967296 = y1 ∧ bits .and .u64 (y : Int) 4294967295 = y0 ∧
      (0 ≤ x1 * y1 ∧ x1 * y1 ≤ 18446744065119617025) ∧ (0 ≤ x1 * y0 ∧ x1 * y0 ≤ 18446744065119617025) ∧ (0 ≤ x0 * y1 ∧ x0 * y1 ≤ 18446744065119617025) ∧ (0 ≤ x0 * y0 ∧ x0 * y0 ≤ 18446744065119617025) ∧
      bits .and .u64 (x1 * y0 + x0 * y0 / 4294967296) 4294967295 = m0 ∧ (0 ≤ m0 ∧ m0 ≤ 4294967295) ∧
      x1 * y1 + (x1 * y0 + x0 * y0 / 4294967296) / 4294967296 + (x0 * y1 + m0) / 4294967296 = ((x * y / 18446744073709551616 : Nat) : Int) ∧
      IntKind.u64.wrap ((x : Int) * y) = ((x * y % 18446744073709551616 : Nat) : Int) := by
  obtain ⟨_, _, _, h⟩ := Lib.mul64_hi x y hx hy
  have ba := Lib.half_mul_le (a := x / 4294967296) (b := y / 4294967296) (by omega) (by omega)
  have bb := Lib.half_mul_le (a := x / 4294967296) (b := y % 4294967296) (by omega) (by omega)
  have bc := Lib.half_mul_le (a := x % 4294967296) (b := y / 4294967296) (by omega) (by omega)
  have bd := Lib.half_mul_le (a := x % 4294967296) (b := y % 4294967296) (by omega) (by omega)
  have xa := andu (x : Int) (by omega) (by omega)
  have ya := andu (y : Int) (by omega) (by omega)
  have e1 : (x : Int) / 4294967296 = ((x / 4294967296 : Nat) : Int) := by omega
  have e2 : (x : Int) % 4294967296 = ((x % 4294967296 : Nat) : Int) := by omega
  have e3 : (y : Int) / 4294967296 = ((y / 4294967296 : Nat) : Int) := by omega
  have e4 : (y : Int) % 4294967296 = ((y % 4294967296 : Nat) : Int) := by omega
  rw [e2] at xa
  rw [e4] at ya
  refine ⟨_, _, _, _, (((x / 4294967296 : Nat) : Int) * ((y % 4294967296 : Nat) : Int) + ((x % 4294967296 : Nat) : Int) * ((y % 4294967296 : Nat) : Int) / 4294967296) % 4294967296, e1, xa, e3, ya, ?_⟩
  generalize x / 4294967296 = x1 at *
  generalize x % 4294967296 = x0 at *
  generalize y / 4294967296 = y1 at *
  generalize y % 4294967296 = y0 at *
  simp only [← Int.natCast_mul]
  generalize x1 * y1 = p11 at *
  generalize x1 * y0 = p10 at *
  generalize x0 * y1 = p01 at *
  generalize x0 * y0 = p00 at *
  generalize x * y = p at *
  have em := andu ((p10 : Int) + (p00 : Int) / 4294967296) (by omega) (by omega)
  refine ⟨by omega, by omega, by omega, by omega, em, by omega, ?_, ?_⟩
  · omega
  · rw [IntKind.wrap_u64]; omega
end Go.Proofs.YtflalomgifeaaaaDoor
