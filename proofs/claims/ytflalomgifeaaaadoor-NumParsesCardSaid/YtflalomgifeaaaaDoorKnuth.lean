/-
  The division of a number of 128 bits by one of 64 (math/bits.Div64): the plain arithmetic of its two digits. No program is named here.
-/
import Derived.Test.YtflalomgifeaaaaDoorArith
import Derived.Lib.BitFns
import Derived.Lib.ItoaNum
import Derived.Laws.Bits64b
namespace Go.Proofs.YtflalomgifeaaaaDoor
open Go.RowKit
/-- A digit's guess q with what it leaves, r: at least the digit, and at most two more. -/
structure Inv (A d y1 y0 q r : Int) : Prop where
  sum : q * y1 + r = A
  least : (A * 4294967296 + d) / (y1 * 4294967296 + y0) ≤ q
  q0 : 0 ≤ q
  q1 : q ≤ 4294967297
  r0 : 0 ≤ r
  r1 : r < 4294967296
/-- What is known of the divisor and the dividend of one digit. -/
structure Dig (A d y1 y0 : Int) : Prop where
  a0 : 0 ≤ A
  a1 : A < y1 * 4294967296 + y0
  d0 : 0 ≤ d
  d1 : d < 4294967296
  y10 : 2147483648 ≤ y1
  y11 : y1 < 4294967296
  y00 : 0 ≤ y0
  y01 : y0 < 4294967296
theorem mul_up {a b c d : Int} (h : a ≤ c) (k : b ≤ d) (hb : 0 ≤ b) (hc : 0 ≤ c) : a * b ≤ c * d := Int.mul_le_mul h k hb hc
theorem Inv.prod {A d y1 y0 q r : Int} (h : Inv A d y1 y0 q r) (D : Dig A d y1 y0) (hq : q < 4294967296) : 0 ≤ q * y0 ∧ q * y0 ≤ 18446744065119617025 := by
  have h1 := Int.mul_nonneg h.q0 D.y00
  have h2 := mul_up (a := q) (b := y0) (c := 4294967295) (d := 4294967295) (by omega) (by have := D.y01; omega) D.y00 (by omega)
  omega
theorem Inv.expand {A d y1 y0 q r : Int} (h : Inv A d y1 y0 q r) : (y1 * 4294967296 + y0) * q = (A - r) * 4294967296 + q * y0 := by
  have e : q * y1 = A - r := by have := h.sum; omega
  rw [Int.add_mul, Int.mul_comm y0 q, Int.mul_right_comm, Int.mul_comm y1 q, e]
/-- The test that fails: the guess is the digit. -/
theorem Inv.done {A d y1 y0 q r : Int} (h : Inv A d y1 y0 q r) (D : Dig A d y1 y0) (hc : q * y0 ≤ 4294967296 * r + d) : q = (A * 4294967296 + d) / (y1 * 4294967296 + y0) := by
  have e := h.expand
  have hp : 0 < y1 * 4294967296 + y0 := by have := D.y10; have := D.y00; omega
  have c := Int.mul_comm q (y1 * 4294967296 + y0)
  have := (Int.le_ediv_iff_mul_le (a := q) (b := A * 4294967296 + d) hp).2 (by omega)
  have := h.least
  omega
/-- The test that holds: the guess is too great. -/
theorem Inv.more {A d y1 y0 q r : Int} (h : Inv A d y1 y0 q r) (D : Dig A d y1 y0) (hc : 4294967296 ≤ q ∨ 4294967296 * r + d < q * y0) : (A * 4294967296 + d) / (y1 * 4294967296 + y0) ≤ q - 1 := by
  have hp : 0 < y1 * 4294967296 + y0 := by have := D.y10; have := D.y00; omega
  rcases hc with hc | hc
  · have : (A * 4294967296 + d) / (y1 * 4294967296 + y0) < 4294967296 := by
      refine Int.ediv_lt_of_lt_mul hp ?_
      have := D.a1; have := D.d1; omega
    omega
  · have e := h.expand
    have : (A * 4294967296 + d) / (y1 * 4294967296 + y0) < q := by
      refine Int.ediv_lt_of_lt_mul hp ?_
      have c := Int.mul_comm q (y1 * 4294967296 + y0)
      omega
    omega
theorem Inv.pos {A d y1 y0 q r : Int} (h : Inv A d y1 y0 q r) (D : Dig A d y1 y0) (hc : 4294967296 ≤ q ∨ 4294967296 * r + d < q * y0) : 1 ≤ q := by
  have := h.more D hc
  have hp : 0 < y1 * 4294967296 + y0 := by have := D.y10; have := D.y00; omega
  have : 0 ≤ (A * 4294967296 + d) / (y1 * 4294967296 + y0) := Int.ediv_nonneg (by have := D.a0; have := D.d0; omega) (by omega)
  omega
theorem Inv.next {A d y1 y0 q r : Int} (h : Inv A d y1 y0 q r) (D : Dig A d y1 y0) (hc : 4294967296 ≤ q ∨ 4294967296 * r + d < q * y0) (hr : r + y1 < 4294967296) : Inv A d y1 y0 (q - 1) (r + y1) :=
  ⟨by rw [Int.sub_mul]; have := h.sum; omega, h.more D hc, by have := h.pos D hc; omega, by have := h.q1; omega, by have := h.r0; have := D.y10; omega, hr⟩
theorem Inv.brk {A d y1 y0 q r : Int} (h : Inv A d y1 y0 q r) (D : Dig A d y1 y0) (hc : 4294967296 ≤ q ∨ 4294967296 * r + d < q * y0) (hr : 4294967296 ≤ r + y1) : q = (A * 4294967296 + d) / (y1 * 4294967296 + y0) + 1 := by
  have hp : 0 < y1 * 4294967296 + y0 := by have := D.y10; have := D.y00; omega
  have m := h.more D hc
  have e := h.expand
  have h1 := h.pos D hc
  have h2 := mul_up (a := q - 1) (b := y0) (c := 4294967296) (d := 4294967295) (by have := h.q1; omega) (by have := D.y01; omega) D.y00 (by omega)
  rw [Int.sub_mul] at h2
  have c := Int.mul_comm (q - 1) (y1 * 4294967296 + y0)
  rw [Int.mul_sub, e] at c
  have := (Int.le_ediv_iff_mul_le (a := q - 1) (b := A * 4294967296 + d) hp).2 (by have := D.d0; omega)
  omega
/-- The first guess. -/
theorem Inv.start {A d y1 y0 : Int} (D : Dig A d y1 y0) : Inv A d y1 y0 (A / y1) (A - A / y1 * y1) := by
  have hp : 0 < y1 * 4294967296 + y0 := by have := D.y10; have := D.y00; omega
  have h1 : 0 < y1 := by have := D.y10; omega
  have e := Int.mul_ediv_add_emod A y1
  have e0 := Int.emod_nonneg A (b := y1) (by omega)
  have e1 := Int.emod_lt_of_pos A h1
  have ec : A / y1 * y1 = y1 * (A / y1) := Int.mul_comm _ _
  refine ⟨by omega, ?_, Int.ediv_nonneg D.a0 (by omega), ?_, by omega, by have := D.y11; omega⟩
  · have : (A * 4294967296 + d) / (y1 * 4294967296 + y0) < A / y1 + 1 := by
      refine Int.ediv_lt_of_lt_mul hp ?_
      have h4 : A + 1 ≤ y1 * (A / y1 + 1) := by rw [Int.mul_add]; omega
      have h5 : 0 ≤ (A / y1 + 1) * y0 := Int.mul_nonneg (by have := Int.ediv_nonneg (b := y1) D.a0 (by omega); omega) D.y00
      rw [Int.mul_add (A / y1 + 1), ← Int.mul_assoc, Int.mul_comm (A / y1 + 1) y1]
      have := D.d1; omega
    omega
  · have : A / y1 < 4294967298 := by
      refine Int.ediv_lt_of_lt_mul h1 ?_
      have := D.a1; have := D.y01; have := D.y10; omega
    omega
/-- All numbers that Div64 computes on its way where the upper half is not 0. -/
structure KD (hi lo y : Int) (s : Nat) (Y y1 y0 A L d1 d0 Q1 R1 Q2 R2 : Int) : Prop where
  s63 : s ≤ 63
  bl : (64 : Int) - (Lib.bitLen y.toNat : Int) = s
  e2 : IntKind.u64.wrap (y * 2 ^ s) = Y
  Y0 : 9223372036854775808 ≤ Y
  Y1 : Y < 18446744073709551616
  e9 : Y / 4294967296 = y1
  e10 : bits .and .u64 Y 4294967295 = y0
  e11 : bits .or .u64 (IntKind.u64.wrap (hi * 2 ^ s)) (lo / 2 ^ (64 - s)) = A
  e12 : IntKind.u64.wrap (lo * 2 ^ s) = L
  L0 : 0 ≤ L
  L1 : L < 18446744073709551616
  e13 : L / 4294967296 = d1
  e14 : bits .and .u64 L 4294967295 = d0
  D1 : Dig A d1 y1 y0
  q1 : (A * 4294967296 + d1) / (y1 * 4294967296 + y0) = Q1
  q10 : 0 ≤ Q1
  q11 : Q1 < 4294967296
  D2 : Dig R1 d0 y1 y0
  r11 : R1 < 18446744073709551616
  e17 : IntKind.u64.wrap (IntKind.u64.wrap (IntKind.u64.wrap (A * 4294967296) + d1) - IntKind.u64.wrap (Q1 * Y)) = R1
  q2 : (R1 * 4294967296 + d0) / (y1 * 4294967296 + y0) = Q2
  q20 : 0 ≤ Q2
  q21 : Q2 < 4294967296
  e18 : IntKind.u64.wrap (IntKind.u64.wrap (IntKind.u64.wrap (R1 * 4294967296) + d0) - IntKind.u64.wrap (Q2 * Y)) = R2
  r20 : 0 ≤ R2
  r21 : R2 < 18446744073709551616
  quo : (hi * 18446744073709551616 + lo) / y = Q1 * 4294967296 + Q2
  rem : (hi * 18446744073709551616 + lo) % y = R2 / 2 ^ s
theorem wrapu_id {n : Int} (h0 : 0 ≤ n) (h1 : n < 18446744073709551616) : IntKind.u64.wrap n = n := IntWalk.u64_in n ⟨h0, by omega⟩
theorem andu (a : Int) (h0 : 0 ≤ a) (h1 : a < 18446744073709551616) : bits .and .u64 a 4294967295 = a % 4294967296 := by
  obtain ⟨n, rfl⟩ := Int.eq_ofNat_of_zero_le h0
  have h := bits_and_u64_nat n 4294967295 (by omega) (by omega)
  have e : n &&& 4294967295 = n % 4294967296 := Nat.and_two_pow_sub_one_eq_mod n 32
  rw [e] at h
  exact h
theorem oru (s : Nat) (a b : Int) (a0 : 0 ≤ a) (b0 : 0 ≤ b) (hb : b < 2 ^ s) (ha : a * 2 ^ s < 18446744073709551616) (hs : s ≤ 63) : bits .or .u64 (a * 2 ^ s) b = a * 2 ^ s + b := by
  obtain ⟨m, rfl⟩ := Int.eq_ofNat_of_zero_le a0
  obtain ⟨n, rfl⟩ := Int.eq_ofNat_of_zero_le b0
  have ep : ((2 ^ s : Nat) : Int) = 2 ^ s := by simp
  have hbn : n < 2 ^ s := by omega
  have hp : 2 ^ s ≤ 2 ^ 63 := Nat.pow_le_pow_right (by omega) hs
  have han : m * 2 ^ s < 18446744073709551616 := by
    have : ((m * 2 ^ s : Nat) : Int) < 18446744073709551616 := by rw [Int.natCast_mul, ep]; exact ha
    omega
  have h := bits_or_u64_nat (m * 2 ^ s) n han (by omega)
  have e : m * 2 ^ s ||| n = m * 2 ^ s + n := by
    rw [Nat.mul_comm m]; exact (Nat.two_pow_add_eq_or_of_lt hbn m).symm
  rw [e] at h
  simp only [Int.natCast_mul, Int.natCast_add, ep] at h
  exact h
theorem kd_exists (hi lo y : Int) (hh : 0 < hi) (hl0 : 0 ≤ lo) (hl : lo < 18446744073709551616) (hy : y < 18446744073709551616) (h : hi < y) :
    ∃ s Y y1 y0 A L d1 d0 Q1 R1 Q2 R2, KD hi lo y s Y y1 y0 A L d1 d0 Q1 R1 Q2 R2 := by
  obtain ⟨b1, b2, b3⟩ := Lib.bitLenAux_bounds 64 y.toNat (by omega) (by omega)
  have b4 : Lib.bitLenAux 64 y.toNat ≤ 64 := Lib.bitLen_le y.toNat 64 (by omega) (by omega)
  obtain ⟨s, hs⟩ : ∃ s, Lib.bitLenAux 64 y.toNat + s = 64 := ⟨64 - Lib.bitLenAux 64 y.toNat, by omega⟩
  obtain ⟨p, hp⟩ : ∃ p : Int, (2 : Int) ^ s = p := ⟨_, rfl⟩
  obtain ⟨g, hg⟩ : ∃ g : Int, (2 : Int) ^ (64 - s) = g := ⟨_, rfl⟩
  have epg : p * g = 18446744073709551616 := by rw [← hp, ← hg, ← Int.pow_add, show s + (64 - s) = 64 by omega]; decide
  have p1 : 1 ≤ p := by rw [← hp]; exact Int.pow_pos (by omega)
  have g1 : 1 ≤ g := by rw [← hg]; exact Int.pow_pos (by omega)
  have eg : g = 2 * ((2 : Int) ^ (63 - s)) := by rw [← hg, show 64 - s = (63 - s) + 1 by omega, Int.pow_succ]; omega
  obtain ⟨k, hk⟩ : ∃ k : Int, (2 : Int) ^ (63 - s) = k := ⟨_, rfl⟩
  rw [hk] at eg
  have eb : Lib.bitLenAux 64 y.toNat = 64 - s := by omega
  rw [eb] at b1 b2 b3
  have y_lo : k ≤ y := by
    have : ((2 ^ (64 - s - 1) : Nat) : Int) ≤ y := by omega
    rw [show 64 - s - 1 = 63 - s by omega] at this
    rw [← hk]; simpa using this
  have y_hi : y < g := by
    have : y < ((2 ^ (64 - s) : Nat) : Int) := by omega
    rw [← hg]; simpa using this
  have ekp : k * p * 2 = 18446744073709551616 := by rw [← epg, eg, Int.mul_comm p, Int.mul_assoc 2, Int.mul_comm 2]
  -- the divisor, shifted
  have Y0 : 9223372036854775808 ≤ y * p := by
    have := Int.mul_le_mul_of_nonneg_right (c := p) y_lo (by omega)
    omega
  have Yg : y * p + p ≤ 18446744073709551616 := by
    have := Int.mul_le_mul_of_nonneg_right (a := y + 1) (b := g) (c := p) (by omega) (by omega)
    rw [Int.add_mul, Int.mul_comm g p, epg] at this
    omega
  have H1 : hi * p + p ≤ y * p := by
    have := Int.mul_le_mul_of_nonneg_right (a := hi + 1) (b := y) (c := p) (by omega) (by omega)
    rw [Int.add_mul] at this; omega
  have H0 : 0 ≤ hi * p := Int.mul_nonneg (by omega) (by omega)
  -- the lower half, parted
  have l1 := Int.mul_ediv_add_emod lo g
  have l2 := Int.emod_nonneg lo (b := g) (by omega)
  have l3 := Int.emod_lt_of_pos lo (show 0 < g by omega)
  have l4 : 0 ≤ lo / g := Int.ediv_nonneg hl0 (by omega)
  have l5 : lo / g < p := Int.ediv_lt_of_lt_mul (by omega) (by omega)
  have lp : lo * p = lo / g * 18446744073709551616 + lo % g * p := by
    have e : (g * (lo / g) + lo % g) * p = lo * p := by rw [l1]
    rw [← e, Int.add_mul, ← epg, Int.mul_comm g, Int.mul_assoc, Int.mul_comm g p]
  have l6 : 0 ≤ lo % g * p := Int.mul_nonneg l2 (by omega)
  have l7 : lo % g * p < 18446744073709551616 := by
    have := Int.mul_lt_mul_of_pos_right l3 (show 0 < p by omega)
    rw [Int.mul_comm g p, epg] at this; exact this
  have hA0 : 0 ≤ hi * p + lo / g := by omega
  have hA1 : hi * p + lo / g < y * p := by omega
  obtain ⟨Y, hY⟩ : ∃ Y, y * p = Y := ⟨_, rfl⟩
  obtain ⟨A, hA⟩ : ∃ A, hi * p + lo / g = A := ⟨_, rfl⟩
  obtain ⟨L, hL⟩ : ∃ L, lo % g * p = L := ⟨_, rfl⟩
  have tot : (hi * 18446744073709551616 + lo) * p = A * 18446744073709551616 + L := by
    rw [Int.add_mul, lp, ← hA, ← hL, Int.mul_right_comm]; omega
  rw [hY] at Y0 Yg hA1
  rw [hA] at hA0 hA1
  rw [hL] at l6 l7
  have ey : Y / 4294967296 * 4294967296 + Y % 4294967296 = Y := by omega
  have D1 : Dig A (L / 4294967296) (Y / 4294967296) (Y % 4294967296) := ⟨hA0, by omega, by omega, by omega, by omega, by omega, by omega, by omega⟩
  have Yp : 0 < Y := by omega
  obtain ⟨N1, hN1⟩ : ∃ N1, A * 4294967296 + L / 4294967296 = N1 := ⟨_, rfl⟩
  have m1 := Int.mul_ediv_add_emod N1 Y
  have m2 := Int.emod_nonneg N1 (b := Y) (by omega)
  have m3 := Int.emod_lt_of_pos N1 Yp
  have m4 : 0 ≤ N1 / Y := Int.ediv_nonneg (by omega) (by omega)
  have m5 : N1 / Y < 4294967296 := Int.ediv_lt_of_lt_mul Yp (by omega)
  obtain ⟨Q1, hQ1⟩ : ∃ Q1, N1 / Y = Q1 := ⟨_, rfl⟩
  obtain ⟨R1, hR1⟩ : ∃ R1, N1 % Y = R1 := ⟨_, rfl⟩
  rw [hQ1] at m1 m4 m5
  rw [hR1] at m1 m2 m3
  have D2 : Dig R1 (L % 4294967296) (Y / 4294967296) (Y % 4294967296) := ⟨m2, by omega, by omega, by omega, by omega, by omega, by omega, by omega⟩
  obtain ⟨N2, hN2⟩ : ∃ N2, R1 * 4294967296 + L % 4294967296 = N2 := ⟨_, rfl⟩
  have n1 := Int.mul_ediv_add_emod N2 Y
  have n2 := Int.emod_nonneg N2 (b := Y) (by omega)
  have n3 := Int.emod_lt_of_pos N2 Yp
  have n4 : 0 ≤ N2 / Y := Int.ediv_nonneg (by omega) (by omega)
  have n5 : N2 / Y < 4294967296 := Int.ediv_lt_of_lt_mul Yp (by omega)
  obtain ⟨Q2, hQ2⟩ : ∃ Q2, N2 / Y = Q2 := ⟨_, rfl⟩
  obtain ⟨R2, hR2⟩ : ∃ R2, N2 % Y = R2 := ⟨_, rfl⟩
  rw [hQ2] at n1 n4 n5
  rw [hR2] at n1 n2 n3
  -- the whole
  obtain ⟨N, hN⟩ : ∃ N, hi * 18446744073709551616 + lo = N := ⟨_, rfl⟩
  rw [hN] at tot
  have q1c := Int.mul_comm Y Q1
  have q2c := Int.mul_comm Y Q2
  have whole : N * p = Y * (Q1 * 4294967296 + Q2) + R2 := by
    rw [Int.mul_add, ← Int.mul_assoc]; omega
  have n0 : 0 < y := by omega
  have hq : N / y = Q1 * 4294967296 + Q2 := by
    have e : N * p / (y * p) = N / y := Int.mul_ediv_mul_of_pos_left N y (by omega)
    rw [← e, hY]
    exact ((Int.ediv_emod_unique Yp).2 ⟨by omega, n2, n3⟩).1
  have hr : N % y * p = R2 := by
    have e : N * p % (y * p) = N % y * p := by
      rw [Int.mul_comm N p, Int.mul_comm y p, Int.mul_emod_mul_of_pos N y (by omega), Int.mul_comm]
    rw [← e, hY]
    exact ((Int.ediv_emod_unique (q := Q1 * 4294967296 + Q2) Yp).2 ⟨by omega, n2, n3⟩).2
  refine ⟨s, Y, Y / 4294967296, Y % 4294967296, A, L, L / 4294967296, L % 4294967296, Q1, R1, Q2, R2, ?_⟩
  refine ⟨by omega, ?_, ?_, by omega, by omega, rfl, andu Y (by omega) (by omega), ?_, ?_, by omega, by omega, rfl, andu L (by omega) (by omega), D1, ?_, m4, m5, D2, by omega, ?_, ?_, n4, n5, ?_, n2, by omega, ?_, ?_⟩
  · show (64 : Int) - (Lib.bitLenAux 64 y.toNat : Int) = s
    omega
  · rw [hp, hY]; exact wrapu_id (by omega) (by omega)
  · rw [hp, hg, wrapu_id (by omega) (by omega), ← hp, oru s hi (lo / g) (by omega) l4 (by rw [hp]; exact l5) (by rw [hp]; omega) (by omega), hp]; exact hA
  · rw [hp, lp, hL, IntKind.wrap_u64]; omega
  · rw [ey, hN1, hQ1]
  · rw [IntKind.wrap_u64, IntKind.wrap_u64, IntKind.wrap_u64, IntKind.wrap_u64]; omega
  · rw [ey, hN2, hQ2]
  · rw [IntKind.wrap_u64, IntKind.wrap_u64, IntKind.wrap_u64, IntKind.wrap_u64]; omega
  · rw [hN]; exact hq
  · rw [hN, hp, ← hr]; exact (Int.mul_ediv_cancel _ (by omega)).symm
end Go.Proofs.YtflalomgifeaaaaDoor
