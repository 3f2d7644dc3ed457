/-
  Out of elder texts: NumA, NumB, Knuth, Div64, NumC, RefMath, RefC.
-/
import Derived.Test.YtaccdpdabmchkaaChecked
import Derived.Test.YtaccdpdabmchkaaArith
import Derived.WalkKit
import Derived.WalkLawsBesides
import Derived.ProofKit
import Derived.Lib.Hide
import Derived.Deep.QuietTactic
import Derived.BigQuiet
import Derived.Test.YtaccdpdabmchkaaBase
import Derived.Lib.BitFns
import Derived.Lib.ItoaNum
import Derived.Laws.Bits64b
import Derived.Test.YtaccdpdabmchkaaShelf
import Derived.Lib.Mul64
namespace Go.Proofs.Ytaccdpdabmchkaa
open Go.RowKit

/-- additive/num.magnitude: the size of a number, as a uint64. -/
theorem num_magnitude (n : Int) (h0 : -9223372036854775808 ≤ n) (h1 : n ≤ 9223372036854775807) (w : World) :
    Calls Try.prog 29 #[.int .i64 n] w fun e w' => e = .returned (.int .u64 (n.natAbs : Int)) ∧ w = w' := by
  by_cases h : n < 0
  · have e : IntKind.u64.wrap (-IntKind.u64.wrap n) = (n.natAbs : Int) := by simp only [Go.IntKind.wrap_u64]; omega
    go_enter Try.func29, Try.ntmps29
    go_wp2
    go_ret
    exact ⟨ret1 (by first | exact e | rfl), rfl⟩
  · have h' : 0 ≤ n := by omega
    go_enter Try.func29, Try.ntmps29
    go_wp2
    go_ret
    exact ⟨ret1 (show n = (n.natAbs : Int) by omega), rfl⟩

/-- additive/additiveref01.size: the size of a number, as a uint64. -/
theorem ref_size (n : Int) (h0 : -9223372036854775808 ≤ n) (h1 : n ≤ 9223372036854775807) (w : World) :
    Calls Try.prog 26 #[.int .i64 n] w fun e w' => e = .returned (.int .u64 (n.natAbs : Int)) ∧ w = w' := by
  by_cases h : n < 0
  · have e : IntKind.u64.wrap (-IntKind.u64.wrap n) = (n.natAbs : Int) := by simp only [Go.IntKind.wrap_u64]; omega
    go_enter Try.func26, Try.ntmps26
    go_wp2
    go_ret
    exact ⟨ret1 (by first | exact e | rfl), rfl⟩
  · have h' : 0 ≤ n := by omega
    go_enter Try.func26, Try.ntmps26
    go_wp2
    go_ret
    exact ⟨ret1 (show n = (n.natAbs : Int) by omega), rfl⟩

open Go.RowKit

theorem quo_zero (n : Int) : quo n 0 = (0, 4) := rfl
theorem quo_over : quo (-9223372036854775808) (-1) = (0, 3) := by decide
theorem quo_of {a b q r : Int} (a0 : -9223372036854775808 ≤ a) (a1 : a ≤ 9223372036854775807) (hb : b ≠ 0) (hov : ¬ (a = -9223372036854775808 ∧ b = -1)) (h : a = b * q + r) (hr : (0 ≤ r ∧ r < b) ∨ (b < r ∧ r ≤ 0)) : quo a b = (q, 0) := by
  have := fl_range a b a0 a1 hb hov
  have e := fl_of h hr
  unfold quo; rw [if_neg hb, fit_in this.1 this.2, e]
theorem min_tdiv {b t : Int} (h : (-9223372036854775808 : Int).tdiv b = t) (h0 : -9223372036854775808 ≤ t) (h1 : t ≤ 9223372036854775807) : wrap64 (-Int.tdiv 9223372036854775808 b) = t := by
  rw [show (-9223372036854775808 : Int) = -(9223372036854775808) from rfl, Int.neg_tdiv] at h
  rw [h]; exact IntWalk.wrap64_in _ ⟨h0, h1⟩
theorem min_tmod {b m : Int} (h : (-9223372036854775808 : Int).tmod b = m) : -(9223372036854775808 % b) = m := by
  rw [show (-9223372036854775808 : Int) = -(9223372036854775808) from rfl, Int.neg_tmod, Int.tmod_eq_emod_of_nonneg (by omega)] at h
  exact h
theorem rnd_zero (n : Int) : rnd n 0 = (0, 4) := rfl
theorem rnd_over : rnd (-9223372036854775808) (-1) = (0, 3) := by decide
theorem abs_cases (r b : Int) (hr : (0 ≤ r ∧ r < b) ∨ (b < r ∧ r ≤ 0)) (b0 : -9223372036854775808 ≤ b) (b1 : b ≤ 9223372036854775807) : (0 ≤ r ∧ r < b ∧ (r.natAbs : Int) = r ∧ (b.natAbs : Int) = b) ∨ (b < r ∧ r ≤ 0 ∧ (r.natAbs : Int) = -r ∧ (b.natAbs : Int) = -b) := by omega
open Go.RowKit
/-- A digit's guess q with what it leaves, r: at least the digit, and at most two more. -/
structure Inv (A d y1 y0 q r : Int) : Prop where
  sum : q * y1 + r = A
  least : (A * 4294967296 + d) / (y1 * 4294967296 + y0) ≤ q
  q0 : 0 ≤ q
  q1 : q ≤ 4294967297
  r0 : 0 ≤ r
  r1 : r < 4294967296
/-- What is known of the divisor and the dividend of one digit. -/
structure Dig (A d y1 y0 : Int) : Prop where
  a0 : 0 ≤ A
  a1 : A < y1 * 4294967296 + y0
  d0 : 0 ≤ d
  d1 : d < 4294967296
  y10 : 2147483648 ≤ y1
  y11 : y1 < 4294967296
  y00 : 0 ≤ y0
  y01 : y0 < 4294967296
theorem mul_up {a b c d : Int} (h : a ≤ c) (k : b ≤ d) (hb : 0 ≤ b) (hc : 0 ≤ c) : a * b ≤ c * d := Int.mul_le_mul h k hb hc
theorem Inv.prod {A d y1 y0 q r : Int} (h : Inv A d y1 y0 q r) (D : Dig A d y1 y0) (hq : q < 4294967296) : 0 ≤ q * y0 ∧ q * y0 ≤ 18446744065119617025 := by
  have h1 := Int.mul_nonneg h.q0 D.y00
  have h2 := mul_up (a := q) (b := y0) (c := 4294967295) (d := 4294967295) (by omega) (by have := D.y01; omega) D.y00 (by omega)
  omega
theorem Inv.expand {A d y1 y0 q r : Int} (h : Inv A d y1 y0 q r) : (y1 * 4294967296 + y0) * q = (A - r) * 4294967296 + q * y0 := by
  have e : q * y1 = A - r := by have := h.sum; omega
  rw [Int.add_mul, Int.mul_comm y0 q, Int.mul_right_comm, Int.mul_comm y1 q, e]
/-- The test that fails: the guess is the digit. -/
theorem Inv.done {A d y1 y0 q r : Int} (h : Inv A d y1 y0 q r) (D : Dig A d y1 y0) (hc : q * y0 ≤ 4294967296 * r + d) : q = (A * 4294967296 + d) / (y1 * 4294967296 + y0) := by
  have e := h.expand
  have hp : 0 < y1 * 4294967296 + y0 := by have := D.y10; have := D.y00; omega
  have c := Int.mul_comm q (y1 * 4294967296 + y0)
  have := (Int.le_ediv_iff_mul_le (a := q) (b := A * 4294967296 + d) hp).2 (by omega)
  have := h.least
  omega
/-- The test that holds: the guess is too great. -/
theorem Inv.more {A d y1 y0 q r : Int} (h : Inv A d y1 y0 q r) (D : Dig A d y1 y0) (hc : 4294967296 ≤ q ∨ 4294967296 * r + d < q * y0) : (A * 4294967296 + d) / (y1 * 4294967296 + y0) ≤ q - 1 := by
  have hp : 0 < y1 * 4294967296 + y0 := by have := D.y10; have := D.y00; omega
  rcases hc with hc | hc
  · have : (A * 4294967296 + d) / (y1 * 4294967296 + y0) < 4294967296 := by
      refine Int.ediv_lt_of_lt_mul hp ?_
      have := D.a1; have := D.d1; omega
    omega
  · have e := h.expand
    have : (A * 4294967296 + d) / (y1 * 4294967296 + y0) < q := by
      refine Int.ediv_lt_of_lt_mul hp ?_
      have c := Int.mul_comm q (y1 * 4294967296 + y0)
      omega
    omega
theorem Inv.pos {A d y1 y0 q r : Int} (h : Inv A d y1 y0 q r) (D : Dig A d y1 y0) (hc : 4294967296 ≤ q ∨ 4294967296 * r + d < q * y0) : 1 ≤ q := by
  have := h.more D hc
  have hp : 0 < y1 * 4294967296 + y0 := by have := D.y10; have := D.y00; omega
  have : 0 ≤ (A * 4294967296 + d) / (y1 * 4294967296 + y0) := Int.ediv_nonneg (by have := D.a0; have := D.d0; omega) (by omega)
  omega
theorem Inv.next {A d y1 y0 q r : Int} (h : Inv A d y1 y0 q r) (D : Dig A d y1 y0) (hc : 4294967296 ≤ q ∨ 4294967296 * r + d < q * y0) (hr : r + y1 < 4294967296) : Inv A d y1 y0 (q - 1) (r + y1) :=
  ⟨by rw [Int.sub_mul]; have := h.sum; omega, h.more D hc, by have := h.pos D hc; omega, by have := h.q1; omega, by have := h.r0; have := D.y10; omega, hr⟩
theorem Inv.brk {A d y1 y0 q r : Int} (h : Inv A d y1 y0 q r) (D : Dig A d y1 y0) (hc : 4294967296 ≤ q ∨ 4294967296 * r + d < q * y0) (hr : 4294967296 ≤ r + y1) : q = (A * 4294967296 + d) / (y1 * 4294967296 + y0) + 1 := by
  have hp : 0 < y1 * 4294967296 + y0 := by have := D.y10; have := D.y00; omega
  have m := h.more D hc
  have e := h.expand
  have h1 := h.pos D hc
  have h2 := mul_up (a := q - 1) (b := y0) (c := 4294967296) (d := 4294967295) (by have := h.q1; omega) (by have := D.y01; omega) D.y00 (by omega)
  rw [Int.sub_mul] at h2
  have c := Int.mul_comm (q - 1) (y1 * 4294967296 + y0)
  rw [Int.mul_sub, e] at c
  have := (Int.le_ediv_iff_mul_le (a := q - 1) (b := A * 4294967296 + d) hp).2 (by have := D.d0; omega)
  omega
/-- The first guess. -/
theorem Inv.start {A d y1 y0 : Int} (D : Dig A d y1 y0) : Inv A d y1 y0 (A / y1) (A - A / y1 * y1) := by
  have hp : 0 < y1 * 4294967296 + y0 := by have := D.y10; have := D.y00; omega
  have h1 : 0 < y1 := by have := D.y10; omega
  have e := Int.mul_ediv_add_emod A y1
  have e0 := Int.emod_nonneg A (b := y1) (by omega)
  have e1 := Int.emod_lt_of_pos A h1
  have ec : A / y1 * y1 = y1 * (A / y1) := Int.mul_comm _ _
  refine ⟨by omega, ?_, Int.ediv_nonneg D.a0 (by omega), ?_, by omega, by have := D.y11; omega⟩
  · have : (A * 4294967296 + d) / (y1 * 4294967296 + y0) < A / y1 + 1 := by
      refine Int.ediv_lt_of_lt_mul hp ?_
      have h4 : A + 1 ≤ y1 * (A / y1 + 1) := by rw [Int.mul_add]; omega
      have h5 : 0 ≤ (A / y1 + 1) * y0 := Int.mul_nonneg (by have := Int.ediv_nonneg (b := y1) D.a0 (by omega); omega) D.y00
      rw [Int.mul_add (A / y1 + 1), ← Int.mul_assoc, Int.mul_comm (A / y1 + 1) y1]
      have := D.d1; omega
    omega
  · have : A / y1 < 4294967298 := by
      refine Int.ediv_lt_of_lt_mul h1 ?_
      have := D.a1; have := D.y01; have := D.y10; omega
    omega
/-- All numbers that Div64 computes on its way where the upper half is not 0. -/
structure KD (hi lo y : Int) (s : Nat) (Y y1 y0 A L d1 d0 Q1 R1 Q2 R2 : Int) : Prop where
  s63 : s ≤ 63
  bl : (64 : Int) - (Lib.bitLen y.toNat : Int) = s
  e2 : IntKind.u64.wrap (y * 2 ^ s) = Y
  Y0 : 9223372036854775808 ≤ Y
  Y1 : Y < 18446744073709551616
  e9 : Y / 4294967296 = y1
  e10 : bits .and .u64 Y 4294967295 = y0
  e11 : bits .or .u64 (IntKind.u64.wrap (hi * 2 ^ s)) (lo / 2 ^ (64 - s)) = A
  e12 : IntKind.u64.wrap (lo * 2 ^ s) = L
  L0 : 0 ≤ L
  L1 : L < 18446744073709551616
  e13 : L / 4294967296 = d1
  e14 : bits .and .u64 L 4294967295 = d0
  D1 : Dig A d1 y1 y0
  q1 : (A * 4294967296 + d1) / (y1 * 4294967296 + y0) = Q1
  q10 : 0 ≤ Q1
  q11 : Q1 < 4294967296
  D2 : Dig R1 d0 y1 y0
  r11 : R1 < 18446744073709551616
  e17 : IntKind.u64.wrap (IntKind.u64.wrap (IntKind.u64.wrap (A * 4294967296) + d1) - IntKind.u64.wrap (Q1 * Y)) = R1
  q2 : (R1 * 4294967296 + d0) / (y1 * 4294967296 + y0) = Q2
  q20 : 0 ≤ Q2
  q21 : Q2 < 4294967296
  e18 : IntKind.u64.wrap (IntKind.u64.wrap (IntKind.u64.wrap (R1 * 4294967296) + d0) - IntKind.u64.wrap (Q2 * Y)) = R2
  r20 : 0 ≤ R2
  r21 : R2 < 18446744073709551616
  quo : (hi * 18446744073709551616 + lo) / y = Q1 * 4294967296 + Q2
  rem : (hi * 18446744073709551616 + lo) % y = R2 / 2 ^ s
theorem wrapu_id {n : Int} (h0 : 0 ≤ n) (h1 : n < 18446744073709551616) : IntKind.u64.wrap n = n := IntWalk.u64_in n ⟨h0, by omega⟩
theorem andu (a : Int) (h0 : 0 ≤ a) (h1 : a < 18446744073709551616) : bits .and .u64 a 4294967295 = a % 4294967296 := by
  obtain ⟨n, rfl⟩ := Int.eq_ofNat_of_zero_le h0
  have h := bits_and_u64_nat n 4294967295 (by omega) (by omega)
  have e : n &&& 4294967295 = n % 4294967296 := Nat.and_two_pow_sub_one_eq_mod n 32
  rw [e] at h
  exact h
theorem oru (s : Nat) (a b : Int) (a0 : 0 ≤ a) (b0 : 0 ≤ b) (hb : b < 2 ^ s) (ha : a * 2 ^ s < 18446744073709551616) (hs : s ≤ 63) : bits .or .u64 (a * 2 ^ s) b = a * 2 ^ s + b := by
  obtain ⟨m, rfl⟩ := Int.eq_ofNat_of_zero_le a0
  obtain ⟨n, rfl⟩ := Int.eq_ofNat_of_zero_le b0
  have ep : ((2 ^ s : Nat) : Int) = 2 ^ s := by simp
  have hbn : n < 2 ^ s := by omega
  have hp : 2 ^ s ≤ 2 ^ 63 := Nat.pow_le_pow_right (by omega) hs
  have han : m * 2 ^ s < 18446744073709551616 := by
    have : ((m * 2 ^ s : Nat) : Int) < 18446744073709551616 := by rw [Int.natCast_mul, ep]; exact ha
    omega
  have h := bits_or_u64_nat (m * 2 ^ s) n han (by omega)
  have e : m * 2 ^ s ||| n = m * 2 ^ s + n := by
    rw [Nat.mul_comm m]; exact (Nat.two_pow_add_eq_or_of_lt hbn m).symm
  rw [e] at h
  simp only [Int.natCast_mul, Int.natCast_add, ep] at h
  exact h
theorem kd_exists (hi lo y : Int) (hh : 0 < hi) (hl0 : 0 ≤ lo) (hl : lo < 18446744073709551616) (hy : y < 18446744073709551616) (h : hi < y) :
    ∃ s Y y1 y0 A L d1 d0 Q1 R1 Q2 R2, KD hi lo y s Y y1 y0 A L d1 d0 Q1 R1 Q2 R2 := by
  obtain ⟨b1, b2, b3⟩ := Lib.bitLenAux_bounds 64 y.toNat (by omega) (by omega)
  have b4 : Lib.bitLenAux 64 y.toNat ≤ 64 := Lib.bitLen_le y.toNat 64 (by omega) (by omega)
  obtain ⟨s, hs⟩ : ∃ s, Lib.bitLenAux 64 y.toNat + s = 64 := ⟨64 - Lib.bitLenAux 64 y.toNat, by omega⟩
  obtain ⟨p, hp⟩ : ∃ p : Int, (2 : Int) ^ s = p := ⟨_, rfl⟩
  obtain ⟨g, hg⟩ : ∃ g : Int, (2 : Int) ^ (64 - s) = g := ⟨_, rfl⟩
  have epg : p * g = 18446744073709551616 := by rw [← hp, ← hg, ← Int.pow_add, show s + (64 - s) = 64 by omega]; decide
  have p1 : 1 ≤ p := by rw [← hp]; exact Int.pow_pos (by omega)
  have g1 : 1 ≤ g := by rw [← hg]; exact Int.pow_pos (by omega)
  have eg : g = 2 * ((2 : Int) ^ (63 - s)) := by rw [← hg, show 64 - s = (63 - s) + 1 by omega, Int.pow_succ]; omega
  obtain ⟨k, hk⟩ : ∃ k : Int, (2 : Int) ^ (63 - s) = k := ⟨_, rfl⟩
  rw [hk] at eg
  have eb : Lib.bitLenAux 64 y.toNat = 64 - s := by omega
  rw [eb] at b1 b2 b3
  have y_lo : k ≤ y := by
    have : ((2 ^ (64 - s - 1) : Nat) : Int) ≤ y := by omega
    rw [show 64 - s - 1 = 63 - s by omega] at this
    rw [← hk]; simpa using this
  have y_hi : y < g := by
    have : y < ((2 ^ (64 - s) : Nat) : Int) := by omega
    rw [← hg]; simpa using this
  have ekp : k * p * 2 = 18446744073709551616 := by rw [← epg, eg, Int.mul_comm p, Int.mul_assoc 2, Int.mul_comm 2]
  -- the divisor, shifted
  have Y0 : 9223372036854775808 ≤ y * p := by
    have := Int.mul_le_mul_of_nonneg_right (c := p) y_lo (by omega)
    omega
  have Yg : y * p + p ≤ 18446744073709551616 := by
    have := Int.mul_le_mul_of_nonneg_right (a := y + 1) (b := g) (c := p) (by omega) (by omega)
    rw [Int.add_mul, Int.mul_comm g p, epg] at this
    omega
  have H1 : hi * p + p ≤ y * p := by
    have := Int.mul_le_mul_of_nonneg_right (a := hi + 1) (b := y) (c := p) (by omega) (by omega)
    rw [Int.add_mul] at this; omega
  have H0 : 0 ≤ hi * p := Int.mul_nonneg (by omega) (by omega)
  -- the lower half, parted
  have l1 := Int.mul_ediv_add_emod lo g
  have l2 := Int.emod_nonneg lo (b := g) (by omega)
  have l3 := Int.emod_lt_of_pos lo (show 0 < g by omega)
  have l4 : 0 ≤ lo / g := Int.ediv_nonneg hl0 (by omega)
  have l5 : lo / g < p := Int.ediv_lt_of_lt_mul (by omega) (by omega)
  have lp : lo * p = lo / g * 18446744073709551616 + lo % g * p := by
    have e : (g * (lo / g) + lo % g) * p = lo * p := by rw [l1]
    rw [← e, Int.add_mul, ← epg, Int.mul_comm g, Int.mul_assoc, Int.mul_comm g p]
  have l6 : 0 ≤ lo % g * p := Int.mul_nonneg l2 (by omega)
  have l7 : lo % g * p < 18446744073709551616 := by
    have := Int.mul_lt_mul_of_pos_right l3 (show 0 < p by omega)
    rw [Int.mul_comm g p, epg] at this; exact this
  have hA0 : 0 ≤ hi * p + lo / g := by omega
  have hA1 : hi * p + lo / g < y * p := by omega
  obtain ⟨Y, hY⟩ : ∃ Y, y * p = Y := ⟨_, rfl⟩
  obtain ⟨A, hA⟩ : ∃ A, hi * p + lo / g = A := ⟨_, rfl⟩
  obtain ⟨L, hL⟩ : ∃ L, lo % g * p = L := ⟨_, rfl⟩
  have tot : (hi * 18446744073709551616 + lo) * p = A * 18446744073709551616 + L := by
    rw [Int.add_mul, lp, ← hA, ← hL, Int.mul_right_comm]; omega
  rw [hY] at Y0 Yg hA1
  rw [hA] at hA0 hA1
  rw [hL] at l6 l7
  have ey : Y / 4294967296 * 4294967296 + Y % 4294967296 = Y := by omega
  have D1 : Dig A (L / 4294967296) (Y / 4294967296) (Y % 4294967296) := ⟨hA0, by omega, by omega, by omega, by omega, by omega, by omega, by omega⟩
  have Yp : 0 < Y := by omega
  obtain ⟨N1, hN1⟩ : ∃ N1, A * 4294967296 + L / 4294967296 = N1 := ⟨_, rfl⟩
  have m1 := Int.mul_ediv_add_emod N1 Y
  have m2 := Int.emod_nonneg N1 (b := Y) (by omega)
  have m3 := Int.emod_lt_of_pos N1 Yp
  have m4 : 0 ≤ N1 / Y := Int.ediv_nonneg (by omega) (by omega)
  have m5 : N1 / Y < 4294967296 := Int.ediv_lt_of_lt_mul Yp (by omega)
  obtain ⟨Q1, hQ1⟩ : ∃ Q1, N1 / Y = Q1 := ⟨_, rfl⟩
  obtain ⟨R1, hR1⟩ : ∃ R1, N1 % Y = R1 := ⟨_, rfl⟩
  rw [hQ1] at m1 m4 m5
  rw [hR1] at m1 m2 m3
  have D2 : Dig R1 (L % 4294967296) (Y / 4294967296) (Y % 4294967296) := ⟨m2, by omega, by omega, by omega, by omega, by omega, by omega, by omega⟩
  obtain ⟨N2, hN2⟩ : ∃ N2, R1 * 4294967296 + L % 4294967296 = N2 := ⟨_, rfl⟩
  have n1 := Int.mul_ediv_add_emod N2 Y
  have n2 := Int.emod_nonneg N2 (b := Y) (by omega)
  have n3 := Int.emod_lt_of_pos N2 Yp
  have n4 : 0 ≤ N2 / Y := Int.ediv_nonneg (by omega) (by omega)
  have n5 : N2 / Y < 4294967296 := Int.ediv_lt_of_lt_mul Yp (by omega)
  obtain ⟨Q2, hQ2⟩ : ∃ Q2, N2 / Y = Q2 := ⟨_, rfl⟩
  obtain ⟨R2, hR2⟩ : ∃ R2, N2 % Y = R2 := ⟨_, rfl⟩
  rw [hQ2] at n1 n4 n5
  rw [hR2] at n1 n2 n3
  -- the whole
  obtain ⟨N, hN⟩ : ∃ N, hi * 18446744073709551616 + lo = N := ⟨_, rfl⟩
  rw [hN] at tot
  have q1c := Int.mul_comm Y Q1
  have q2c := Int.mul_comm Y Q2
  have whole : N * p = Y * (Q1 * 4294967296 + Q2) + R2 := by
    rw [Int.mul_add, ← Int.mul_assoc]; omega
  have n0 : 0 < y := by omega
  have hq : N / y = Q1 * 4294967296 + Q2 := by
    have e : N * p / (y * p) = N / y := Int.mul_ediv_mul_of_pos_left N y (by omega)
    rw [← e, hY]
    exact ((Int.ediv_emod_unique Yp).2 ⟨by omega, n2, n3⟩).1
  have hr : N % y * p = R2 := by
    have e : N * p % (y * p) = N % y * p := by
      rw [Int.mul_comm N p, Int.mul_comm y p, Int.mul_emod_mul_of_pos N y (by omega), Int.mul_comm]
    rw [← e, hY]
    exact ((Int.ediv_emod_unique (q := Q1 * 4294967296 + Q2) Yp).2 ⟨by omega, n2, n3⟩).2
  refine ⟨s, Y, Y / 4294967296, Y % 4294967296, A, L, L / 4294967296, L % 4294967296, Q1, R1, Q2, R2, ?_⟩
  refine ⟨by omega, ?_, ?_, by omega, by omega, rfl, andu Y (by omega) (by omega), ?_, ?_, by omega, by omega, rfl, andu L (by omega) (by omega), D1, ?_, m4, m5, D2, by omega, ?_, ?_, n4, n5, ?_, n2, by omega, ?_, ?_⟩
  · show (64 : Int) - (Lib.bitLenAux 64 y.toNat : Int) = s
    omega
  · rw [hp, hY]; exact wrapu_id (by omega) (by omega)
  · rw [hp, hg, wrapu_id (by omega) (by omega), ← hp, oru s hi (lo / g) (by omega) l4 (by rw [hp]; exact l5) (by rw [hp]; omega) (by omega), hp]; exact hA
  · rw [hp, lp, hL, IntKind.wrap_u64]; omega
  · rw [ey, hN1, hQ1]
  · rw [IntKind.wrap_u64, IntKind.wrap_u64, IntKind.wrap_u64, IntKind.wrap_u64]; omega
  · rw [ey, hN2, hQ2]
  · rw [IntKind.wrap_u64, IntKind.wrap_u64, IntKind.wrap_u64, IntKind.wrap_u64]; omega
  · rw [hN]; exact hq
  · rw [hN, hp, ← hr]; exact (Int.mul_ediv_cancel _ (by omega)).symm
open Go.RowKit
theorem wrapu_in (n : Int) (h0 : 0 ≤ n) (h1 : n ≤ 18446744073709551615) : IntKind.u64.wrap n = n := IntWalk.u64_in n ⟨h0, h1⟩
theorem div64_low (lo y : Int) (hl0 : 0 ≤ lo) (hl : lo < 18446744073709551616) (hy : y < 18446744073709551616) (h : 0 < y) (w : World) :
    Calls Try.prog 30 #[.int .u64 0, .int .u64 lo, .int .u64 y] w fun e w' => e = .returned (.tuple #[.int .u64 (lo / y), .int .u64 (lo % y)]) ∧ Ext w w' := by
  have hz : (y == 0) = false := beq_f (by omega)
  have b0 : 0 ≤ lo / y := Int.ediv_nonneg hl0 (by omega)
  have b1 : lo / y ≤ lo := Int.ediv_le_self _ hl0
  have hw := wrapu_in (lo / y) b0 (by omega)
  go_enter Try.func30, Try.ntmps30
  go_wp2
  go_quiet (fail)
  go_wp2
  go_ret2
  exact ⟨ret2 (by first | exact hw | rfl) rfl, (Ext.refl _).drewN _⟩
theorem quo_start {A d y1 y0 : Int} (D : Dig A d y1 y0) : A / y1 ≤ 18446744073709551615 ∧ 0 ≤ A / y1 := by
  have h := Inv.start D
  have := h.q0; have := h.q1; omega
theorem rest_start {A d y1 y0 : Int} (D : Dig A d y1 y0) : IntKind.u64.wrap (A - IntKind.u64.wrap (A / y1 * y1)) = A - A / y1 * y1 := by
  have h := Inv.start D
  have := h.r0; have := h.r1; have := D.a1; have := D.a0; have := D.y11; have := D.y10; have := D.y01
  have h2 : 0 ≤ A / y1 * y1 := Int.mul_nonneg h.q0 (by omega)
  have h3 := h.sum
  rw [wrapu_in (A / y1 * y1) h2 (by omega), wrapu_in _ (by omega) (by omega)]
set_option maxRecDepth 100000 in
set_option maxHeartbeats 4000000 in
theorem div64_two (hi lo y : Int) (s : Nat) (Y y1 y0 A L d1 d0 Q1 R1 Q2 R2 : Int) (K : KD hi lo y s Y y1 y0 A L d1 d0 Q1 R1 Q2 R2)
    (hh : 0 < hi) (_hl0 : 0 ≤ lo) (_hl : lo < 18446744073709551616) (hy : y < 18446744073709551616) (h : hi < y) (w : World) :
    Calls Try.prog 30 #[.int .u64 hi, .int .u64 lo, .int .u64 y] w fun e w' => e = .returned (.tuple #[.int .u64 (Q1 * 4294967296 + Q2), .int .u64 (R2 / 2 ^ s)]) ∧ w = w' := by
  have hz : (y == 0) = false := beq_f (by omega)
  have hz2 : (hi == 0) = false := beq_f (by omega)
  have c44 : Hid (∀ w : World, Calls Try.prog 32 #[.int .u64 y] w fun e w' => e = .returned (.int .i64 s) ∧ w = w') := Lib.hid fun w => by
    have c := Try.bits_LeadingZeros64 y w (by omega) (by omega)
    rw [K.bl] at c
    exact c.mono fun e w' ⟨he, hw⟩ => ⟨he, hw.symm⟩
  have D1 := K.D1; have D2 := K.D2
  have hs := K.s63
  have hY0 := K.Y0; have hY1 := K.Y1
  have y1b := D1.y10; have y1c := D1.y11; have y0a := D1.y00; have y0b := D1.y01
  have hA0 := D1.a0; have hA1 : A < 18446744073709551616 := by have := D1.a1; omega
  have d1a := D1.d0; have d1b := D1.d1; have d0a := D2.d0; have d0b := D2.d1
  have L0 := K.L0; have L1 := K.L1
  have e2 := K.e2; have e9 := K.e9; have e10 := K.e10; have e11 := K.e11; have e12 := K.e12; have e13 := K.e13; have e14 := K.e14
  have i1 := Inv.start D1
  obtain ⟨q1b, q1a⟩ := quo_start D1
  have e16 := rest_start D1
  go_enter Try.func30, Try.ntmps30
  go_wp2_with (go_at_call 32; refine (c44.out _).mono ?_; rintro e w' ⟨rfl, rfl⟩)
  clear e2 e9 e10 e11 e12 e13 e14 e16 q1a q1b
  go_loop [15, 16] (fun q r => ∃ qn rn : Int, q = .int .u64 qn ∧ r = .int .u64 rn ∧ Inv A d1 y1 y0 qn rn) (fun q _ => (intOf q).toNat)
  case atStart => exact ⟨_, _, rfl, rfl, i1⟩
  case round =>
    clear i1
    obtain ⟨q, r, rfl, rfl, I⟩ := hrel
    have a3 := I.q0; have a4 := I.q1; have a5 := I.r0; have a6 := I.r1
    have g1 := K.q10; have g2 := K.q11; have g3 := K.q20; have g4 := K.q21; have g5 := K.r20; have g6 := K.r21; have g7 := K.r11; have g8 := D2.a0
    by_cases c1 : 4294967296 ≤ q ∨ 4294967296 * r + d1 < q * y0
    · have hk : 1 ≤ q := I.pos D1 c1
      by_cases hr : 4294967296 ≤ r + y1
      · have hd := I.brk D1 c1 hr
        rw [K.q1] at hd
        subst hd
        have dr := dle_t hr
        rcases (show 4294967296 ≤ Q1 + 1 ∨ Q1 + 1 < 4294967296 by omega) with hq | hq
        · have f1 := dle_t hq
          clear c1
          have e17 := K.e17
          have i2 := Inv.start D2
          obtain ⟨q2b, q2a⟩ := quo_start D2
          have e19 := rest_start D2
          go_wp2
          clear e17 e19 q2a q2b
          go_loop [18, 16] (fun q r => ∃ qn rn : Int, q = .int .u64 qn ∧ r = .int .u64 rn ∧ Inv R1 d0 y1 y0 qn rn) (fun q _ => (intOf q).toNat)
          case atStart => exact ⟨_, _, rfl, rfl, i2⟩
          case round =>
            clear i2
            obtain ⟨u, v, rfl, rfl, J⟩ := hrel
            have b3 := J.q0; have b4 := J.q1; have b5 := J.r0; have b6 := J.r1
            by_cases c2 : 4294967296 ≤ u ∨ 4294967296 * v + d0 < u * y0
            · have hk : 1 ≤ u := J.pos D2 c2
              by_cases hr : 4294967296 ≤ v + y1
              · have hd := J.brk D2 c2 hr
                rw [K.q2] at hd
                subst hd
                have dr := dle_t hr
                have e18 := K.e18
                rcases (show 4294967296 ≤ Q2 + 1 ∨ Q2 + 1 < 4294967296 by omega) with hq | hq
                · have f1 := dle_t hq
                  clear c2 I J
                  go_wp2
                  go_ret2
                  exact ⟨rfl, rfl⟩
                · obtain ⟨p1, p2⟩ := J.prod D2 hq
                  have c2' : 4294967296 * v + d0 < (Q2 + 1) * y0 := by omega
                  have f1 := dle_f hq
                  have f2 := dlt_t c2'
                  clear c2 I J
                  go_wp2
                  go_ret2
                  exact ⟨rfl, rfl⟩
              · have hn := J.next D2 c2 (by omega)
                have dr := dle_f (show v + y1 < 4294967296 by omega)
                rcases (show 4294967296 ≤ u ∨ u < 4294967296 by omega) with hq | hq
                · have f1 := dle_t hq
                  have HN := Lib.hid hn
                  clear c2 I J hn
                  go_wp2
                  go_round
                  case rel => exact ⟨_, _, rfl, rfl, HN.out⟩
                  case measure => simp [intOf]; omega
                · obtain ⟨p1, p2⟩ := J.prod D2 hq
                  have c2' : 4294967296 * v + d0 < u * y0 := by omega
                  have f1 := dle_f hq
                  have f2 := dlt_t c2'
                  have HN := Lib.hid hn
                  clear c2 I J hn
                  go_wp2
                  go_round
                  case rel => exact ⟨_, _, rfl, rfl, HN.out⟩
                  case measure => simp [intOf]; omega
            · have hq : u < 4294967296 := by omega
              obtain ⟨p1, p2⟩ := J.prod D2 hq
              have hd := J.done D2 (by omega)
              rw [K.q2] at hd
              obtain rfl : Q2 = u := hd.symm
              have f1 := dle_f hq
              have f2 := dlt_f (show Q2 * y0 ≤ 4294967296 * v + d0 by omega)
              have e18 := K.e18
              clear c2 I J
              go_wp2
              go_ret2
              exact ⟨rfl, rfl⟩
        · obtain ⟨p1, p2⟩ := I.prod D1 hq
          have c1' : 4294967296 * r + d1 < (Q1 + 1) * y0 := by omega
          have f1 := dle_f hq
          have f2 := dlt_t c1'
          clear c1
          have e17 := K.e17
          have i2 := Inv.start D2
          obtain ⟨q2b, q2a⟩ := quo_start D2
          have e19 := rest_start D2
          go_wp2
          clear e17 e19 q2a q2b
          go_loop [18, 16] (fun q r => ∃ qn rn : Int, q = .int .u64 qn ∧ r = .int .u64 rn ∧ Inv R1 d0 y1 y0 qn rn) (fun q _ => (intOf q).toNat)
          case atStart => exact ⟨_, _, rfl, rfl, i2⟩
          case round =>
            clear i2
            obtain ⟨u, v, rfl, rfl, J⟩ := hrel
            have b3 := J.q0; have b4 := J.q1; have b5 := J.r0; have b6 := J.r1
            by_cases c2 : 4294967296 ≤ u ∨ 4294967296 * v + d0 < u * y0
            · have hk : 1 ≤ u := J.pos D2 c2
              by_cases hr : 4294967296 ≤ v + y1
              · have hd := J.brk D2 c2 hr
                rw [K.q2] at hd
                subst hd
                have dr := dle_t hr
                have e18 := K.e18
                rcases (show 4294967296 ≤ Q2 + 1 ∨ Q2 + 1 < 4294967296 by omega) with hq | hq
                · have f1 := dle_t hq
                  clear c2 I J
                  go_wp2
                  go_ret2
                  exact ⟨rfl, rfl⟩
                · obtain ⟨p1, p2⟩ := J.prod D2 hq
                  have c2' : 4294967296 * v + d0 < (Q2 + 1) * y0 := by omega
                  have f1 := dle_f hq
                  have f2 := dlt_t c2'
                  clear c2 I J
                  go_wp2
                  go_ret2
                  exact ⟨rfl, rfl⟩
              · have hn := J.next D2 c2 (by omega)
                have dr := dle_f (show v + y1 < 4294967296 by omega)
                rcases (show 4294967296 ≤ u ∨ u < 4294967296 by omega) with hq | hq
                · have f1 := dle_t hq
                  have HN := Lib.hid hn
                  clear c2 I J hn
                  go_wp2
                  go_round
                  case rel => exact ⟨_, _, rfl, rfl, HN.out⟩
                  case measure => simp [intOf]; omega
                · obtain ⟨p1, p2⟩ := J.prod D2 hq
                  have c2' : 4294967296 * v + d0 < u * y0 := by omega
                  have f1 := dle_f hq
                  have f2 := dlt_t c2'
                  have HN := Lib.hid hn
                  clear c2 I J hn
                  go_wp2
                  go_round
                  case rel => exact ⟨_, _, rfl, rfl, HN.out⟩
                  case measure => simp [intOf]; omega
            · have hq : u < 4294967296 := by omega
              obtain ⟨p1, p2⟩ := J.prod D2 hq
              have hd := J.done D2 (by omega)
              rw [K.q2] at hd
              obtain rfl : Q2 = u := hd.symm
              have f1 := dle_f hq
              have f2 := dlt_f (show Q2 * y0 ≤ 4294967296 * v + d0 by omega)
              have e18 := K.e18
              clear c2 I J
              go_wp2
              go_ret2
              exact ⟨rfl, rfl⟩
      · have hn := I.next D1 c1 (by omega)
        have dr := dle_f (show r + y1 < 4294967296 by omega)
        rcases (show 4294967296 ≤ q ∨ q < 4294967296 by omega) with hq | hq
        · have f1 := dle_t hq
          have HN := Lib.hid hn
          clear c1 I hn
          go_wp2
          go_round
          case rel => exact ⟨_, _, rfl, rfl, HN.out⟩
          case measure => simp [intOf]; omega
        · obtain ⟨p1, p2⟩ := I.prod D1 hq
          have c1' : 4294967296 * r + d1 < q * y0 := by omega
          have f1 := dle_f hq
          have f2 := dlt_t c1'
          have HN := Lib.hid hn
          clear c1 I hn
          go_wp2
          go_round
          case rel => exact ⟨_, _, rfl, rfl, HN.out⟩
          case measure => simp [intOf]; omega
    · have hq : q < 4294967296 := by omega
      obtain ⟨p1, p2⟩ := I.prod D1 hq
      have hd := I.done D1 (by omega)
      rw [K.q1] at hd
      obtain rfl : Q1 = q := hd.symm
      have f1 := dle_f hq
      have f2 := dlt_f (show Q1 * y0 ≤ 4294967296 * r + d1 by omega)
      clear c1
      have e17 := K.e17
      have i2 := Inv.start D2
      obtain ⟨q2b, q2a⟩ := quo_start D2
      have e19 := rest_start D2
      go_wp2
      clear e17 e19 q2a q2b
      go_loop [18, 16] (fun q r => ∃ qn rn : Int, q = .int .u64 qn ∧ r = .int .u64 rn ∧ Inv R1 d0 y1 y0 qn rn) (fun q _ => (intOf q).toNat)
      case atStart => exact ⟨_, _, rfl, rfl, i2⟩
      case round =>
        clear i2
        obtain ⟨u, v, rfl, rfl, J⟩ := hrel
        have b3 := J.q0; have b4 := J.q1; have b5 := J.r0; have b6 := J.r1
        by_cases c2 : 4294967296 ≤ u ∨ 4294967296 * v + d0 < u * y0
        · have hk : 1 ≤ u := J.pos D2 c2
          by_cases hr : 4294967296 ≤ v + y1
          · have hd := J.brk D2 c2 hr
            rw [K.q2] at hd
            subst hd
            have dr := dle_t hr
            have e18 := K.e18
            rcases (show 4294967296 ≤ Q2 + 1 ∨ Q2 + 1 < 4294967296 by omega) with hq | hq
            · have f1 := dle_t hq
              clear c2 I J
              go_wp2
              go_ret2
              exact ⟨rfl, rfl⟩
            · obtain ⟨p1, p2⟩ := J.prod D2 hq
              have c2' : 4294967296 * v + d0 < (Q2 + 1) * y0 := by omega
              have f1 := dle_f hq
              have f2 := dlt_t c2'
              clear c2 I J
              go_wp2
              go_ret2
              exact ⟨rfl, rfl⟩
          · have hn := J.next D2 c2 (by omega)
            have dr := dle_f (show v + y1 < 4294967296 by omega)
            rcases (show 4294967296 ≤ u ∨ u < 4294967296 by omega) with hq | hq
            · have f1 := dle_t hq
              have HN := Lib.hid hn
              clear c2 I J hn
              go_wp2
              go_round
              case rel => exact ⟨_, _, rfl, rfl, HN.out⟩
              case measure => simp [intOf]; omega
            · obtain ⟨p1, p2⟩ := J.prod D2 hq
              have c2' : 4294967296 * v + d0 < u * y0 := by omega
              have f1 := dle_f hq
              have f2 := dlt_t c2'
              have HN := Lib.hid hn
              clear c2 I J hn
              go_wp2
              go_round
              case rel => exact ⟨_, _, rfl, rfl, HN.out⟩
              case measure => simp [intOf]; omega
        · have hq : u < 4294967296 := by omega
          obtain ⟨p1, p2⟩ := J.prod D2 hq
          have hd := J.done D2 (by omega)
          rw [K.q2] at hd
          obtain rfl : Q2 = u := hd.symm
          have f1 := dle_f hq
          have f2 := dlt_f (show Q2 * y0 ≤ 4294967296 * v + d0 by omega)
          have e18 := K.e18
          clear c2 I J
          go_wp2
          go_ret2
          exact ⟨rfl, rfl⟩
/-- math/bits.Div64, where it does not panic. -/
theorem bits_Div64 (hi lo y : Int) (h0 : 0 ≤ hi) (hl0 : 0 ≤ lo) (hl : lo < 18446744073709551616) (hy : y < 18446744073709551616) (h : hi < y) (w : World) :
    Calls Try.prog 30 #[.int .u64 hi, .int .u64 lo, .int .u64 y] w fun e w' => e = .returned (.tuple #[.int .u64 ((hi * 18446744073709551616 + lo) / y), .int .u64 ((hi * 18446744073709551616 + lo) % y)]) ∧ Ext w w' := by
  by_cases hh : hi = 0
  · subst hh
    rw [Int.zero_mul, Int.zero_add]
    exact div64_low lo y hl0 hl hy h w
  · obtain ⟨s, Y, y1, y0, A, L, d1, d0, Q1, R1, Q2, R2, K⟩ := kd_exists hi lo y (by omega) hl0 hl hy h
    rw [K.quo, K.rem]
    refine (div64_two hi lo y s Y y1 y0 A L d1 d0 Q1 R1 Q2 R2 K (by omega) hl0 hl hy h w).mono fun e w' ⟨he, hw⟩ => ⟨he, ?_⟩
    rw [← hw]; exact Ext.refl _
open Go.RowKit
theorem neg_back (q : Int) (h0 : 0 ≤ q) (h1 : q ≤ 9223372036854775808) : wrap64 (IntKind.u64.wrap (-q)) = -q := by
  rw [IntKind.wrap_u64]; unfold wrap64; omega
theorem num_negate (q r : Int) (q0 : 0 ≤ q) (q1 : q ≤ 18446744073709551615) (r0 : 0 ≤ r) (w : World) :
    Calls Try.prog 31 #[.int .u64 q, .int .u64 r] w fun e w' => e = Res (fit (if 0 < r then -(q + 1) else -q)) ∧ w = w' := by
  obtain ⟨z, hz⟩ : ∃ z, (if 0 < r then -(q + 1) else -q) = z := ⟨_, rfl⟩
  rw [hz]
  by_cases c1 : 9223372036854775808 < q
  · have G := Lib.hid (fit_out (s := z) (by rw [← hz]; split <;> omega))
    have d1 := dlt_t c1
    clear hz
    go_enter Try.func31, Try.ntmps31
    go_wp2
    go_ret2
    exact ⟨res_of G.out, rfl⟩
  have d1 := dlt_f (show q ≤ 9223372036854775808 by omega)
  by_cases hr : 0 < r
  · have dr := dlt_t hr
    rw [if_pos hr] at hz
    subst hz
    by_cases c2 : q = 9223372036854775808
    · have d2 := beq_t c2
      have G := Lib.hid (fit_out (s := -(q + 1)) (by omega))
      clear c2
      go_enter Try.func31, Try.ntmps31
      go_wp2
      go_ret2
      exact ⟨res_of G.out, rfl⟩
    · have d2 := beq_f c2
      have G := Lib.hid (fit_in (s := -(q + 1)) (by omega) (by omega))
      have nb := neg_back (q + 1) (by omega) (by omega)
      have hq : q < 9223372036854775808 := by omega
      clear c2
      go_enter Try.func31, Try.ntmps31
      go_wp2
      go_ret2
      exact ⟨res_of G.out, rfl⟩
  · have dr := dlt_f (show r ≤ 0 by omega)
    rw [if_neg hr] at hz
    subst hz
    have G := Lib.hid (fit_in (s := -q) (by omega) (by omega))
    have nb := neg_back q (by omega) (by omega)
    by_cases c2 : q = 9223372036854775808
    · have d2 := beq_t c2
      clear c2
      go_enter Try.func31, Try.ntmps31
      go_wp2
      go_ret2
      exact ⟨res_of G.out, rfl⟩
    · have d2 := beq_f c2
      clear c2
      go_enter Try.func31, Try.ntmps31
      go_wp2
      go_ret2
      exact ⟨res_of G.out, rfl⟩

theorem fl_pp {P C : Int} (hC : 0 < C) : fl P C = P / C := if_pos hC
theorem fl_nn {P C : Int} (hC : 0 < C) : fl (-P) (-C) = P / C := by
  unfold fl; rw [if_neg (by omega), Int.neg_neg, Int.neg_neg]
theorem fl_np {P C : Int} (hC : 0 < C) : fl (-P) C = if 0 < P % C then -(P / C + 1) else -(P / C) := by
  have e := Int.mul_ediv_add_emod P C
  have e0 := Int.emod_nonneg P (b := C) (by omega)
  have e1 := Int.emod_lt_of_pos P hC
  split
  · exact fl_of (q := -(P / C + 1)) (r := C - P % C) (by rw [Int.mul_neg, Int.mul_add]; omega) (by omega)
  · exact fl_of (q := -(P / C)) (r := 0) (by rw [Int.mul_neg]; omega) (by omega)
theorem fl_pn {P C : Int} (hC : 0 < C) : fl P (-C) = if 0 < P % C then -(P / C + 1) else -(P / C) := by
  rw [← fl_np hC]
  unfold fl; rw [if_neg (by omega), if_pos hC, Int.neg_neg]
theorem abs_of (a : Int) : (a < 0 ∧ a = -(a.natAbs : Int)) ∨ (0 ≤ a ∧ a = (a.natAbs : Int)) := by omega
/-- The floor of a * b / c, out of the sizes and the signs. -/
theorem quo_signs (a b c : Int) (hc : c ≠ 0) :
    (((decide (a < 0) != decide (b < 0)) = decide (c < 0)) → quo (a * b) c = fit ((a.natAbs : Int) * b.natAbs / c.natAbs)) ∧
    (((decide (a < 0) != decide (b < 0)) = !decide (c < 0)) → quo (a * b) c = fit (if 0 < (a.natAbs : Int) * b.natAbs % c.natAbs then -((a.natAbs : Int) * b.natAbs / c.natAbs + 1) else -((a.natAbs : Int) * b.natAbs / c.natAbs))) := by
  have hC : 0 < (c.natAbs : Int) := by omega
  have q : ∀ x, quo x c = fit (fl x c) := fun x => by unfold quo; rw [if_neg hc]
  rw [q]
  rcases abs_of a with ⟨a1, a2⟩ | ⟨a1, a2⟩ <;> rcases abs_of b with ⟨b1, b2⟩ | ⟨b1, b2⟩ <;> rcases abs_of c with ⟨c1, c2⟩ | ⟨c1, c2⟩
  all_goals
    first | rw [dlt_t a1] | rw [dlt_f a1]
    first | rw [dlt_t b1] | rw [dlt_f b1]
    first | rw [dlt_t c1] | rw [dlt_f c1]
    generalize (a.natAbs : Int) = A at *
    generalize (b.natAbs : Int) = B at *
    generalize (c.natAbs : Int) = C at *
    subst a2 b2 c2
    try simp only [Int.neg_mul, Int.mul_neg, Int.neg_neg]
    refine ⟨fun h => ?_, fun h => ?_⟩
    · first
      | (exfalso; revert h; decide)
      | rw [fl_pp hC]
      | rw [fl_nn hC]
    · first
      | (exfalso; revert h; decide)
      | rw [fl_np hC]
      | rw [fl_pn hC]
theorem quo_sizes (a b c : Int) (hc : c ≠ 0) (h : 18446744073709551616 ≤ (a.natAbs : Int) * b.natAbs / c.natAbs) : quo (a * b) c = (0, 3) := by
  obtain ⟨h1, h2⟩ := quo_signs a b c hc
  by_cases e : (decide (a < 0) != decide (b < 0)) = decide (c < 0)
  · rw [h1 e]; exact fit_out (by omega)
  · rw [h2 (by revert e; cases (decide (a < 0) != decide (b < 0)) <;> cases decide (c < 0) <;> decide)]
    exact fit_out (by split <;> omega)
/-- The product of two sizes in two halves. -/
theorem halves (A B : Int) (A0 : 0 ≤ A) (A1 : A ≤ 9223372036854775808) (B0 : 0 ≤ B) (B1 : B ≤ 9223372036854775808) : 0 ≤ A * B ∧ A * B ≤ 85070591730234615865843651857942052864 := by
  have h := Int.mul_le_mul (a := A) (b := B) (c := 9223372036854775808) (d := 9223372036854775808) A1 B1 B0 (by omega)
  exact ⟨Int.mul_nonneg A0 B0, by omega⟩
set_option maxHeartbeats 1000000 in
theorem num_MulDiv (a b c : Int) (a0 : -9223372036854775808 ≤ a) (a1 : a ≤ 9223372036854775807) (b0 : -9223372036854775808 ≤ b) (b1 : b ≤ 9223372036854775807) (c0 : -9223372036854775808 ≤ c) (c1 : c ≤ 9223372036854775807) (w : World) :
    Calls Try.prog 24 #[.int .i64 a, .int .i64 b, .int .i64 c] w fun e w' => e = Res (quo (a * b) c) ∧ Ext w w' := by
  by_cases hc : c = 0
  · subst hc
    go_enter Try.func24, Try.ntmps24
    go_wp2_with fail
    go_ret2
    exact ⟨res_of (quo_zero _), Ext.refl _⟩
  obtain ⟨s1, s2⟩ := quo_signs a b c hc
  have s3 := quo_sizes a b c hc
  have ma := num_magnitude a a0 a1 w
  have mb := num_magnitude b b0 b1 w
  have mc := num_magnitude c c0 c1 w
  have ml := Try.bits_Mul64 a.natAbs b.natAbs (by omega) (by omega) w
  have A0 : 0 ≤ (a.natAbs : Int) ∧ (a.natAbs : Int) ≤ 9223372036854775808 := by omega
  have B0 : 0 ≤ (b.natAbs : Int) ∧ (b.natAbs : Int) ≤ 9223372036854775808 := by omega
  have C0 : 0 < (c.natAbs : Int) ∧ (c.natAbs : Int) ≤ 9223372036854775808 := by omega
  have e1 : ((a.natAbs * b.natAbs / 18446744073709551616 : Nat) : Int) = (a.natAbs : Int) * b.natAbs / 18446744073709551616 := by simp
  have e2 : ((a.natAbs * b.natAbs % 18446744073709551616 : Nat) : Int) = (a.natAbs : Int) * b.natAbs % 18446744073709551616 := by simp
  rw [e1, e2] at ml
  clear e1 e2
  generalize (a.natAbs : Int) = A at *
  generalize (b.natAbs : Int) = B at *
  generalize (c.natAbs : Int) = C at *
  obtain ⟨p0, p1⟩ := halves A B A0.1 A0.2 B0.1 B0.2
  generalize A * B = P at *
  have h0 : 0 ≤ P / 18446744073709551616 := by omega
  have l0 : 0 ≤ P % 18446744073709551616 := by omega
  have l1 : P % 18446744073709551616 < 18446744073709551616 := by omega
  have hp : P / 18446744073709551616 * 18446744073709551616 + P % 18446744073709551616 = P := by omega
  have MA := Lib.hid ma; have MB := Lib.hid mb; have MC := Lib.hid mc
  obtain ⟨C1, C2⟩ := C0
  have h5 : P / 18446744073709551616 ≤ 18446744073709551615 := by omega
  by_cases hov : C ≤ P / 18446744073709551616
  · have h6 : 18446744073709551616 ≤ P / C := (Int.le_ediv_iff_mul_le C1).2 (by omega)
    have Z := Lib.hid (s3 h6)
    have dv := dle_t hov
    generalize P / 18446744073709551616 = H at *
    generalize P % 18446744073709551616 = L at *
    have ML := Lib.hid ml
    clear ma mb mc ml s1 s2 s3 hp h6
    go_enter Try.func24, Try.ntmps24
    go_wp2_with fail
    refine MA.out.mono ?_; rintro e w' ⟨rfl, rfl⟩
    go_wp2_with fail
    refine MB.out.mono ?_; rintro e w' ⟨rfl, rfl⟩
    go_wp2_with fail
    refine ML.out.mono ?_; rintro e w' ⟨rfl, rfl⟩
    go_wp2_with fail
    refine MC.out.mono ?_; rintro e w' ⟨rfl, rfl⟩
    go_wp2_with fail
    go_ret2
    exact ⟨res_of Z.out, Ext.refl _⟩
  · have dv := bits_Div64 (P / 18446744073709551616) (P % 18446744073709551616) C h0 l0 l1 (by omega) (by omega) w
    rw [hp] at dv
    have DV := Lib.hid dv
    have d0 := dle_f (show P / 18446744073709551616 < C by omega)
    have hlt : P / 18446744073709551616 < C := by omega
    have q0 : 0 ≤ P / C := Int.ediv_nonneg p0 (by omega)
    have q1 : P / C ≤ 18446744073709551615 := by
      have : P / C < 18446744073709551616 := Int.ediv_lt_of_lt_mul C1 (by omega)
      omega
    have r0 : 0 ≤ P % C := Int.emod_nonneg P (by omega)
    have r1 : P % C < C := Int.emod_lt_of_pos P C1
    clear dv s3 hov
    generalize P / C = Q at *
    generalize P % C = R at *
    generalize P / 18446744073709551616 = H at *
    generalize P % 18446744073709551616 = L at *
    have ML := Lib.hid ml
    have ng := num_negate Q R q0 q1 r0
    generalize (if 0 < R then -(Q + 1) else -Q) = z at *
    have NG := Lib.hid ng
    clear ma mb mc ml hp ng
    rcases sign_cases a with ⟨ha, da⟩ | ⟨ha, da⟩ <;> rcases sign_cases b with ⟨hb, db⟩ | ⟨hb, db⟩ <;> rcases sign_cases c with ⟨hc', dc⟩ | ⟨hc', dc⟩
    all_goals
      rw [da, db, dc] at s1 s2
      first
      | (have Z := Lib.hid (s2 rfl); clear s1 s2
         go_enter Try.func24, Try.ntmps24
         go_wp2_with fail
         refine MA.out.mono ?_; rintro e w' ⟨rfl, rfl⟩
         go_wp2_with fail
         refine MB.out.mono ?_; rintro e w' ⟨rfl, rfl⟩
         go_wp2_with fail
         refine ML.out.mono ?_; rintro e w' ⟨rfl, rfl⟩
         go_wp2_with fail
         refine MC.out.mono ?_; rintro e w' ⟨rfl, rfl⟩
         go_wp2_with fail
         refine DV.out.mono ?_; rintro e w1 ⟨rfl, he⟩
         go_wp2_with fail
         refine (NG.out _).mono ?_; rintro e w' ⟨rfl, rfl⟩; unfold Res
         go_wp2_with fail
         go_ret2
         exact ⟨congrArg Res Z.out.symm, he⟩)
      | (have s := s1 rfl; clear s1 s2
         by_cases hq : 9223372036854775807 < Q
         · have dq := dlt_t hq
           rw [fit_out (.inr hq)] at s
           have Z := Lib.hid s; clear s
           go_enter Try.func24, Try.ntmps24
           go_wp2_with fail
           refine MA.out.mono ?_; rintro e w' ⟨rfl, rfl⟩
           go_wp2_with fail
           refine MB.out.mono ?_; rintro e w' ⟨rfl, rfl⟩
           go_wp2_with fail
           refine ML.out.mono ?_; rintro e w' ⟨rfl, rfl⟩
           go_wp2_with fail
           refine MC.out.mono ?_; rintro e w' ⟨rfl, rfl⟩
           go_wp2_with fail
           refine DV.out.mono ?_; rintro e w1 ⟨rfl, he⟩
           go_wp2_with fail
           go_ret2
           exact ⟨res_of Z.out, he⟩
         · have dq := dlt_f (show Q ≤ 9223372036854775807 by omega)
           rw [fit_in (by omega) (by omega)] at s
           have Z := Lib.hid s; clear s
           go_enter Try.func24, Try.ntmps24
           go_wp2_with fail
           refine MA.out.mono ?_; rintro e w' ⟨rfl, rfl⟩
           go_wp2_with fail
           refine MB.out.mono ?_; rintro e w' ⟨rfl, rfl⟩
           go_wp2_with fail
           refine ML.out.mono ?_; rintro e w' ⟨rfl, rfl⟩
           go_wp2_with fail
           refine MC.out.mono ?_; rintro e w' ⟨rfl, rfl⟩
           go_wp2_with fail
           refine DV.out.mono ?_; rintro e w1 ⟨rfl, he⟩
           go_wp2_with fail
           go_ret2
           exact ⟨res_of Z.out, he⟩)
open Go.RowKit
/-- Behind k rounds: q is the quotient of the bits that were shifted in, r what it leaves, low the bits that wait. -/
structure QRel (N d : Int) (k : Nat) (low q r : Int) : Prop where
  ex : ∃ l : Int, 0 ≤ l ∧ l < 2 ^ (64 - k) ∧ low = l * 2 ^ k ∧ (q * d + r) * 2 ^ (64 - k) + l = N
  r0 : 0 ≤ r
  r1 : r < d
  q0 : 0 ≤ q
  q1 : q < 2 ^ k
theorem QRel.start {hi lo d : Int} (h0 : 0 ≤ hi) (h : hi < d) (l0 : 0 ≤ lo) (l1 : lo < 18446744073709551616) : QRel (hi * 18446744073709551616 + lo) d 0 lo 0 hi :=
  ⟨⟨lo, l0, by simpa using l1, by simp, by simp⟩, h0, h, by omega, by simp⟩
theorem pow_le63 {k : Nat} (h : k < 64) : (2 : Int) ^ k ≤ 9223372036854775808 := by
  have : (2 : Nat) ^ k ≤ 2 ^ 63 := Nat.pow_le_pow_right (by omega) (by omega)
  have e : ((2 ^ k : Nat) : Int) = 2 ^ k := by simp
  rw [← e]; exact Int.ofNat_le.2 (Nat.le_trans this (by decide))
theorem QRel.q63 {N d : Int} {k : Nat} {low q r : Int} (h : QRel N d k low q r) (hk : k < 64) : q < 9223372036854775808 := by
  have := h.q1; have := pow_le63 hk; omega
theorem QRel.low64 {N d : Int} {k : Nat} {low q r : Int} (h : QRel N d k low q r) (hk : k ≤ 64) : 0 ≤ low ∧ low < 18446744073709551616 := by
  obtain ⟨l, l0, l1, e, _⟩ := h.ex
  have p : (0 : Int) < 2 ^ k := Int.pow_pos (by omega)
  have e2 : (2 : Int) ^ (64 - k) * 2 ^ k = 18446744073709551616 := by rw [← Int.pow_add, show 64 - k + k = 64 by omega]; decide
  have := Int.mul_lt_mul_of_pos_right l1 p
  rw [e, ← e2]
  exact ⟨Int.mul_nonneg l0 (by omega), this⟩
theorem qstep {N d l t u q r : Int} (t1 : 1 ≤ t) (u1 : 1 ≤ u) (tu : t * u = 9223372036854775808) (l0 : 0 ≤ l) (l1 : l < 2 * t) (hN : (q * d + r) * (2 * t) + l = N) :
    0 ≤ l * u / 9223372036854775808 ∧ l * u / 9223372036854775808 ≤ 1 ∧ ∃ m, 0 ≤ m ∧ m < t ∧ IntKind.u64.wrap (l * u * 2) = m * (u * 2) ∧ (2 * (q * d + r) + l * u / 9223372036854775808) * t + m = N := by
  have eb : l * u / 9223372036854775808 = l / t := by rw [← tu]; exact Int.mul_ediv_mul_of_pos_left l t (by omega)
  have l2 := Int.mul_ediv_add_emod l t
  have l3 := Int.emod_nonneg l (b := t) (by omega)
  have l4 := Int.emod_lt_of_pos l (show 0 < t by omega)
  have b0 : 0 ≤ l / t := Int.ediv_nonneg l0 (by omega)
  have b1 : l / t < 2 := Int.ediv_lt_of_lt_mul (by omega) (by omega)
  rw [eb]
  generalize l / t = b at *
  generalize l % t = m at *
  refine ⟨b0, by omega, m, l3, l4, ?_, ?_⟩
  · have m0 : 0 ≤ m * u := Int.mul_nonneg l3 (by omega)
    have m1 : m * u < 9223372036854775808 := by rw [← tu]; exact Int.mul_lt_mul_of_pos_right l4 (by omega)
    have e : l * u = b * 9223372036854775808 + m * u := by
      rw [← l2, Int.add_mul, Int.mul_comm t b, Int.mul_assoc, tu]
    rw [e, ← Int.mul_assoc, IntKind.wrap_u64]
    generalize m * u = z at *
    omega
  · rw [← hN, ← l2, Int.add_mul, ← Int.mul_assoc (q * d + r) 2 t, Int.mul_comm (q * d + r) 2, Int.mul_comm t b]
    omega
theorem QRel.step {N d : Int} {k : Nat} {low q r : Int} (h : QRel N d k low q r) (hk : k < 64) :
    0 ≤ low / 9223372036854775808 ∧ low / 9223372036854775808 ≤ 1 ∧
    (d ≤ r * 2 + low / 9223372036854775808 → QRel N d (k + 1) (IntKind.u64.wrap (low * 2)) (q * 2 + 1) (r * 2 + low / 9223372036854775808 - d)) ∧
    (r * 2 + low / 9223372036854775808 < d → QRel N d (k + 1) (IntKind.u64.wrap (low * 2)) (q * 2) (r * 2 + low / 9223372036854775808)) := by
  obtain ⟨l, l0, l1, e, hN⟩ := h.ex
  have et : (2 : Int) ^ (64 - k) = 2 * 2 ^ (63 - k) := by rw [show 64 - k = (63 - k) + 1 by omega, Int.pow_succ]; omega
  have eu : (2 : Int) ^ (k + 1) = 2 ^ k * 2 := Int.pow_succ _ _
  have etu : (2 : Int) ^ (63 - k) * 2 ^ k = 9223372036854775808 := by rw [← Int.pow_add, show 63 - k + k = 63 by omega]; decide
  have t1 : (0 : Int) < 2 ^ (63 - k) := Int.pow_pos (by omega)
  have u1 : (0 : Int) < 2 ^ k := Int.pow_pos (by omega)
  have q1 := h.q1; have q0 := h.q0; have r0 := h.r0; have r1 := h.r1
  rw [et] at l1 hN
  subst e
  obtain ⟨b0, b1, m, m0, m1, ew, em⟩ := qstep (by omega) (by omega) etu l0 l1 hN
  refine ⟨b0, b1, fun hd => ⟨⟨m, m0, ?_, ?_, ?_⟩, by omega, by omega, by omega, ?_⟩, fun hd => ⟨⟨m, m0, ?_, ?_, ?_⟩, by omega, by omega, by omega, ?_⟩⟩
  · rw [show 64 - (k + 1) = 63 - k by omega]; exact m1
  · rw [eu]; exact ew
  · rw [show 64 - (k + 1) = 63 - k by omega, ← em]
    generalize l * 2 ^ k / 9223372036854775808 = b at *
    have c : (q * 2 + 1) * d = q * d * 2 + d := by rw [Int.add_mul, Int.mul_right_comm q 2 d]; omega
    rw [show (q * 2 + 1) * d + (r * 2 + b - d) = 2 * (q * d + r) + b by omega]
  · rw [eu]; omega
  · rw [show 64 - (k + 1) = 63 - k by omega]; exact m1
  · rw [eu]; exact ew
  · rw [show 64 - (k + 1) = 63 - k by omega, ← em]
    generalize l * 2 ^ k / 9223372036854775808 = b at *
    have c : q * 2 * d = q * d * 2 := Int.mul_right_comm q 2 d
    rw [show q * 2 * d + (r * 2 + b) = 2 * (q * d + r) + b by omega]
  · rw [eu]; omega
theorem QRel.last {N d low q r : Int} (h : QRel N d 64 low q r) : N / d = q ∧ N % d = r := by
  obtain ⟨l, l0, l1, e, hN⟩ := h.ex
  have hl : l = 0 := by simp at l1; omega
  subst hl
  have hN' : q * d + r = N := by simpa using hN
  have := h.r0; have := h.r1
  exact (Int.ediv_emod_unique (by omega)).2 ⟨by rw [Int.mul_comm]; omega, h.r0, h.r1⟩
theorem or_bit (r b : Int) (r0 : 0 ≤ r) (r1 : r < 9223372036854775808) (b0 : 0 ≤ b) (b1 : b ≤ 1) : bits .or .u64 (r * 2) b = r * 2 + b :=
  oru 1 r b r0 b0 (by omega) (by omega) (by omega)
/-- The school method's product: with the halves' four products under names. -/
theorem prod_parts (x y : Nat) (hx : x < 18446744073709551616) (hy : y < 18446744073709551616) :
    ∃ x1 x0 y1 y0 m0 : Int, (x : Int) / 4294967296 = x1 ∧ bits .and .u64 (x : Int) 4294967295 = x0 ∧ (y : Int) / 4294967296 = y1 ∧ bits .and .u64 (y : Int) 4294967295 = y0 ∧
      (0 ≤ x1 * y1 ∧ x1 * y1 ≤ 18446744065119617025) ∧ (0 ≤ x1 * y0 ∧ x1 * y0 ≤ 18446744065119617025) ∧ (0 ≤ x0 * y1 ∧ x0 * y1 ≤ 18446744065119617025) ∧ (0 ≤ x0 * y0 ∧ x0 * y0 ≤ 18446744065119617025) ∧
      bits .and .u64 (x1 * y0 + x0 * y0 / 4294967296) 4294967295 = m0 ∧ (0 ≤ m0 ∧ m0 ≤ 4294967295) ∧
      x1 * y1 + (x1 * y0 + x0 * y0 / 4294967296) / 4294967296 + (x0 * y1 + m0) / 4294967296 = ((x * y / 18446744073709551616 : Nat) : Int) ∧
      IntKind.u64.wrap ((x : Int) * y) = ((x * y % 18446744073709551616 : Nat) : Int) := by
  obtain ⟨_, _, _, h⟩ := Lib.mul64_hi x y hx hy
  have ba := Lib.half_mul_le (a := x / 4294967296) (b := y / 4294967296) (by omega) (by omega)
  have bb := Lib.half_mul_le (a := x / 4294967296) (b := y % 4294967296) (by omega) (by omega)
  have bc := Lib.half_mul_le (a := x % 4294967296) (b := y / 4294967296) (by omega) (by omega)
  have bd := Lib.half_mul_le (a := x % 4294967296) (b := y % 4294967296) (by omega) (by omega)
  have xa := andu (x : Int) (by omega) (by omega)
  have ya := andu (y : Int) (by omega) (by omega)
  have e1 : (x : Int) / 4294967296 = ((x / 4294967296 : Nat) : Int) := by omega
  have e2 : (x : Int) % 4294967296 = ((x % 4294967296 : Nat) : Int) := by omega
  have e3 : (y : Int) / 4294967296 = ((y / 4294967296 : Nat) : Int) := by omega
  have e4 : (y : Int) % 4294967296 = ((y % 4294967296 : Nat) : Int) := by omega
  rw [e2] at xa
  rw [e4] at ya
  refine ⟨_, _, _, _, (((x / 4294967296 : Nat) : Int) * ((y % 4294967296 : Nat) : Int) + ((x % 4294967296 : Nat) : Int) * ((y % 4294967296 : Nat) : Int) / 4294967296) % 4294967296, e1, xa, e3, ya, ?_⟩
  generalize x / 4294967296 = x1 at *
  generalize x % 4294967296 = x0 at *
  generalize y / 4294967296 = y1 at *
  generalize y % 4294967296 = y0 at *
  simp only [← Int.natCast_mul]
  generalize x1 * y1 = p11 at *
  generalize x1 * y0 = p10 at *
  generalize x0 * y1 = p01 at *
  generalize x0 * y0 = p00 at *
  generalize x * y = p at *
  have em := andu ((p10 : Int) + (p00 : Int) / 4294967296) (by omega) (by omega)
  refine ⟨by omega, by omega, by omega, by omega, em, by omega, ?_, ?_⟩
  · omega
  · rw [IntKind.wrap_u64]; omega
open Go.RowKit
set_option maxHeartbeats 1000000 in
theorem ref_product (x y : Nat) (hx : x < 18446744073709551616) (hy : y < 18446744073709551616) (w : World) :
    Calls Try.prog 25 #[.int .u64 x, .int .u64 y] w fun e w' => e = .returned (.tuple #[.int .u64 ((x * y / 18446744073709551616 : Nat) : Int), .int .u64 ((x * y % 18446744073709551616 : Nat) : Int)]) ∧ w = w' := by
  obtain ⟨x1, x0, y1, y0, m0, e1, e2, e3, e4, ⟨b1, c1⟩, ⟨b2, c2⟩, ⟨b3, c3⟩, ⟨b4, c4⟩, e5, ⟨b5, c5⟩, e6, e7⟩ := prod_parts x y hx hy
  generalize ((x * y / 18446744073709551616 : Nat) : Int) = H at *
  generalize ((x * y % 18446744073709551616 : Nat) : Int) = L at *
  have xb : (x : Int) < 18446744073709551616 := by omega
  have yb : (y : Int) < 18446744073709551616 := by omega
  have xc : (0 : Int) ≤ x := by omega
  have yc : (0 : Int) ≤ y := by omega
  clear hx hy
  generalize (x : Int) = X at *
  generalize (y : Int) = Y at *
  have E6 := Lib.hid e6; clear e6
  go_enter Try.func25, Try.ntmps25
  go_wp2
  go_ret2
  exact ⟨ret2 (by first | exact E6.out | rfl) rfl, rfl⟩
theorem ref_quotient_over (hi lo d : Int) (h : d ≤ hi) (w : World) :
    Calls Try.prog 27 #[.int .u64 hi, .int .u64 lo, .int .u64 d] w fun e w' => e = .returned (.tuple #[.int .u64 0, .int .u64 0, .bool false]) ∧ w = w' := by
  have dv := dle_t h
  go_enter Try.func27, Try.ntmps27
  go_wp2
  go_ret3
  exact ⟨rfl, rfl⟩
set_option maxRecDepth 100000 in
set_option maxHeartbeats 1000000 in
theorem ref_quotient (hi lo d : Int) (h0 : 0 ≤ hi) (hl0 : 0 ≤ lo) (hl : lo < 18446744073709551616) (hd : d ≤ 9223372036854775808) (h : hi < d) (w : World) :
    Calls Try.prog 27 #[.int .u64 hi, .int .u64 lo, .int .u64 d] w fun e w' => e = .returned (.tuple #[.int .u64 ((hi * 18446744073709551616 + lo) / d), .int .u64 ((hi * 18446744073709551616 + lo) % d), .bool true]) ∧ w = w' := by
  have dv := dle_f h
  have st := Lib.hid (QRel.start h0 h hl0 hl)
  generalize hi * 18446744073709551616 + lo = N at *
  go_enter Try.func27, Try.ntmps27
  go_wp2
  go_loop [1, 9, 10, 11] (fun a b c i => ∃ (k : Nat) (low q r : Int), k ≤ 64 ∧ i = .int .i64 k ∧ a = .int .u64 low ∧ b = .int .u64 q ∧ c = .int .u64 r ∧ QRel N d k low q r) (fun _ _ _ i => 64 - (intOf i).toNat)
  case atStart => exact ⟨0, lo, 0, hi, by omega, rfl, rfl, rfl, rfl, st.out⟩
  case round =>
    obtain ⟨k, low, q, r, hk, rfl, rfl, rfl, rfl, R⟩ := hrel
    by_cases hlt : k < 64
    · have q2 := R.q63 hlt
      have q0 := R.q0; have r0 := R.r0; have r1 := R.r1
      obtain ⟨l0, l1⟩ := R.low64 hk
      obtain ⟨b0, b1, n1, n2⟩ := R.step hlt
      have eo := or_bit r (low / 9223372036854775808) r0 (by omega) b0 b1
      have ec : (r / 9223372036854775808 == 1) = false := beq_f (by omega)
      have kk : ((k : Int) < 64) := by omega
      by_cases hc : d ≤ r * 2 + low / 9223372036854775808
      · have N1 := Lib.hid (n1 hc)
        have d1 := dle_t hc
        clear n1 n2 R
        go_wp2
        go_round
        case rel => exact ⟨k + 1, _, _, _, by omega, by go_num, rfl, rfl, rfl, N1.out⟩
        case measure => simp [intOf]; omega
      · have N2 := Lib.hid (n2 (by omega))
        have d1 := dle_f (show r * 2 + low / 9223372036854775808 < d by omega)
        have hc' : r * 2 + low / 9223372036854775808 < d := by omega
        clear n1 n2 R hc
        go_wp2
        go_round
        case rel => exact ⟨k + 1, _, _, _, by omega, by go_num, rfl, rfl, rfl, N2.out⟩
        case measure => simp [intOf]; omega
    · have hk64 : k = 64 := by omega
      subst hk64
      obtain ⟨e1, e2⟩ := R.last
      have E1 := Lib.hid e1; have E2 := Lib.hid e2
      clear R e1 e2 hk
      go_wp2
      go_ret3
      exact ⟨by rw [E1.out, E2.out]; rfl, rfl⟩
set_option maxRecDepth 100000 in
theorem ref_md_pos (a b c A B C H L Q R : Int) (sa sb sc : Bool) (w : World) (hc : c ≠ 0) (q0 : 0 ≤ Q) (q1 : Q ≤ 18446744073709551615) (_r0 : 0 ≤ R)
    (MA : Hid (Calls Try.prog 26 #[.int .i64 a] w fun e w' => e = .returned (.int .u64 A) ∧ w = w')) (MB : Hid (Calls Try.prog 26 #[.int .i64 b] w fun e w' => e = .returned (.int .u64 B) ∧ w = w')) (MC : Hid (Calls Try.prog 26 #[.int .i64 c] w fun e w' => e = .returned (.int .u64 C) ∧ w = w'))
    (ML : Hid (Calls Try.prog 25 #[.int .u64 A, .int .u64 B] w fun e w' => e = .returned (.tuple #[.int .u64 H, .int .u64 L]) ∧ w = w')) (DV : Hid (Calls Try.prog 27 #[.int .u64 H, .int .u64 L, .int .u64 C] w fun e w' => e = .returned (.tuple #[.int .u64 Q, .int .u64 R, .bool true]) ∧ w = w'))
    (da : decide (a < 0) = sa) (db : decide (b < 0) = sb) (dc : decide (c < 0) = sc) (hn : (!(sa == !(sb == sc))) = false) :
    Calls Try.prog 21 #[.int .i64 a, .int .i64 b, .int .i64 c] w fun e w' => e = Res (fit Q) ∧ w = w' := by
  have hz : (c == 0) = false := beq_f hc
  by_cases hq : 9223372036854775807 < Q
  · have dq := dlt_t hq
    have Z := Lib.hid (fit_out (s := Q) (.inr hq))
    go_enter Try.func21, Try.ntmps21
    go_wp2_with fail
    refine MA.out.mono ?_; rintro e w' ⟨rfl, rfl⟩
    go_wp2_with fail
    refine MB.out.mono ?_; rintro e w' ⟨rfl, rfl⟩
    go_wp2_with fail
    refine ML.out.mono ?_; rintro e w' ⟨rfl, rfl⟩
    go_wp2_with fail
    refine MC.out.mono ?_; rintro e w' ⟨rfl, rfl⟩
    go_wp2_with fail
    refine DV.out.mono ?_; rintro e w1 ⟨rfl, rfl⟩
    go_wp2_with fail
    go_ret2
    exact ⟨res_of Z.out, rfl⟩
  · have dq := dlt_f (show Q ≤ 9223372036854775807 by omega)
    have Z := Lib.hid (fit_in (s := Q) (by omega) (by omega))
    go_enter Try.func21, Try.ntmps21
    go_wp2_with fail
    refine MA.out.mono ?_; rintro e w' ⟨rfl, rfl⟩
    go_wp2_with fail
    refine MB.out.mono ?_; rintro e w' ⟨rfl, rfl⟩
    go_wp2_with fail
    refine ML.out.mono ?_; rintro e w' ⟨rfl, rfl⟩
    go_wp2_with fail
    refine MC.out.mono ?_; rintro e w' ⟨rfl, rfl⟩
    go_wp2_with fail
    refine DV.out.mono ?_; rintro e w1 ⟨rfl, rfl⟩
    go_wp2_with fail
    go_ret2
    exact ⟨res_of Z.out, rfl⟩
set_option maxRecDepth 100000 in
theorem ref_md_neg (a b c A B C H L Q R : Int) (sa sb sc : Bool) (w : World) (hc : c ≠ 0) (q0 : 0 ≤ Q) (q1 : Q ≤ 18446744073709551615) (_r0 : 0 ≤ R)
    (MA : Hid (Calls Try.prog 26 #[.int .i64 a] w fun e w' => e = .returned (.int .u64 A) ∧ w = w')) (MB : Hid (Calls Try.prog 26 #[.int .i64 b] w fun e w' => e = .returned (.int .u64 B) ∧ w = w')) (MC : Hid (Calls Try.prog 26 #[.int .i64 c] w fun e w' => e = .returned (.int .u64 C) ∧ w = w'))
    (ML : Hid (Calls Try.prog 25 #[.int .u64 A, .int .u64 B] w fun e w' => e = .returned (.tuple #[.int .u64 H, .int .u64 L]) ∧ w = w')) (DV : Hid (Calls Try.prog 27 #[.int .u64 H, .int .u64 L, .int .u64 C] w fun e w' => e = .returned (.tuple #[.int .u64 Q, .int .u64 R, .bool true]) ∧ w = w'))
    (da : decide (a < 0) = sa) (db : decide (b < 0) = sb) (dc : decide (c < 0) = sc) (hn : (!(sa == !(sb == sc))) = true) :
    Calls Try.prog 21 #[.int .i64 a, .int .i64 b, .int .i64 c] w fun e w' => e = Res (fit (if 0 < R then -(Q + 1) else -Q)) ∧ w = w' := by
  have hz : (c == 0) = false := beq_f hc
  obtain ⟨z, ez⟩ : ∃ z, (if 0 < R then -(Q + 1) else -Q) = z := ⟨_, rfl⟩
  rw [ez]
  by_cases g1 : 9223372036854775808 < Q
  · have Z := Lib.hid (fit_out (s := z) (by rw [← ez]; split <;> omega))
    have d1 := dlt_t g1
    clear ez
    go_enter Try.func21, Try.ntmps21
    go_wp2_with fail
    refine MA.out.mono ?_; rintro e w' ⟨rfl, rfl⟩
    go_wp2_with fail
    refine MB.out.mono ?_; rintro e w' ⟨rfl, rfl⟩
    go_wp2_with fail
    refine ML.out.mono ?_; rintro e w' ⟨rfl, rfl⟩
    go_wp2_with fail
    refine MC.out.mono ?_; rintro e w' ⟨rfl, rfl⟩
    go_wp2_with fail
    refine DV.out.mono ?_; rintro e w1 ⟨rfl, rfl⟩
    go_wp2_with fail
    go_ret2
    exact ⟨res_of Z.out, rfl⟩
  have d1 := dlt_f (show Q ≤ 9223372036854775808 by omega)
  by_cases g2 : 0 < R
  · rw [if_pos g2] at ez
    subst ez
    have d3 := dlt_t g2
    by_cases g3 : Q = 9223372036854775808
    · have d2 := beq_t g3
      have Z := Lib.hid (fit_out (s := -(Q + 1)) (by omega))
      clear g3
      go_enter Try.func21, Try.ntmps21
      go_wp2_with fail
      refine MA.out.mono ?_; rintro e w' ⟨rfl, rfl⟩
      go_wp2_with fail
      refine MB.out.mono ?_; rintro e w' ⟨rfl, rfl⟩
      go_wp2_with fail
      refine ML.out.mono ?_; rintro e w' ⟨rfl, rfl⟩
      go_wp2_with fail
      refine MC.out.mono ?_; rintro e w' ⟨rfl, rfl⟩
      go_wp2_with fail
      refine DV.out.mono ?_; rintro e w1 ⟨rfl, rfl⟩
      go_wp2_with fail
      go_ret2
      exact ⟨res_of Z.out, rfl⟩
    · have d2 := beq_f g3
      have nb := neg_back (Q + 1) (by omega) (by omega)
      have Z := Lib.hid (fit_in (s := -(Q + 1)) (by omega) (by omega))
      have g4 : Q < 9223372036854775808 := by omega
      clear g3
      go_enter Try.func21, Try.ntmps21
      go_wp2_with fail
      refine MA.out.mono ?_; rintro e w' ⟨rfl, rfl⟩
      go_wp2_with fail
      refine MB.out.mono ?_; rintro e w' ⟨rfl, rfl⟩
      go_wp2_with fail
      refine ML.out.mono ?_; rintro e w' ⟨rfl, rfl⟩
      go_wp2_with fail
      refine MC.out.mono ?_; rintro e w' ⟨rfl, rfl⟩
      go_wp2_with fail
      refine DV.out.mono ?_; rintro e w1 ⟨rfl, rfl⟩
      go_wp2_with fail
      go_ret2
      exact ⟨res_of (by first | exact Z.out | (rw [nb]; exact Z.out)), rfl⟩
  · rw [if_neg g2] at ez
    subst ez
    have d3 := dlt_f (show R ≤ 0 by omega)
    have nb := neg_back Q (by omega) (by omega)
    have Z := Lib.hid (fit_in (s := -Q) (by omega) (by omega))
    have g4 : R ≤ 0 := by omega
    clear g2
    by_cases g3 : Q = 9223372036854775808
    · have d2 := beq_t g3
      clear g3
      go_enter Try.func21, Try.ntmps21
      go_wp2_with fail
      refine MA.out.mono ?_; rintro e w' ⟨rfl, rfl⟩
      go_wp2_with fail
      refine MB.out.mono ?_; rintro e w' ⟨rfl, rfl⟩
      go_wp2_with fail
      refine ML.out.mono ?_; rintro e w' ⟨rfl, rfl⟩
      go_wp2_with fail
      refine MC.out.mono ?_; rintro e w' ⟨rfl, rfl⟩
      go_wp2_with fail
      refine DV.out.mono ?_; rintro e w1 ⟨rfl, rfl⟩
      go_wp2_with fail
      go_ret2
      exact ⟨res_of (by first | exact Z.out | (rw [nb]; exact Z.out)), rfl⟩
    · have d2 := beq_f g3
      clear g3
      go_enter Try.func21, Try.ntmps21
      go_wp2_with fail
      refine MA.out.mono ?_; rintro e w' ⟨rfl, rfl⟩
      go_wp2_with fail
      refine MB.out.mono ?_; rintro e w' ⟨rfl, rfl⟩
      go_wp2_with fail
      refine ML.out.mono ?_; rintro e w' ⟨rfl, rfl⟩
      go_wp2_with fail
      refine MC.out.mono ?_; rintro e w' ⟨rfl, rfl⟩
      go_wp2_with fail
      refine DV.out.mono ?_; rintro e w1 ⟨rfl, rfl⟩
      go_wp2_with fail
      go_ret2
      exact ⟨res_of (by first | exact Z.out | (rw [nb]; exact Z.out)), rfl⟩
set_option maxHeartbeats 1000000 in
theorem ref_MulDiv (a b c : Int) (a0 : -9223372036854775808 ≤ a) (a1 : a ≤ 9223372036854775807) (b0 : -9223372036854775808 ≤ b) (b1 : b ≤ 9223372036854775807) (c0 : -9223372036854775808 ≤ c) (c1 : c ≤ 9223372036854775807) (w : World) :
    Calls Try.prog 21 #[.int .i64 a, .int .i64 b, .int .i64 c] w fun e w' => e = Res (quo (a * b) c) ∧ w = w' := by
  by_cases hc : c = 0
  · subst hc
    go_enter Try.func21, Try.ntmps21
    go_wp2_with fail
    go_ret2
    exact ⟨res_of (quo_zero _), rfl⟩
  obtain ⟨s1, s2⟩ := quo_signs a b c hc
  have s3 := quo_sizes a b c hc
  have ma := ref_size a a0 a1 w
  have mb := ref_size b b0 b1 w
  have mc := ref_size c c0 c1 w
  have ml := ref_product a.natAbs b.natAbs (by omega) (by omega) w
  have A0 : 0 ≤ (a.natAbs : Int) ∧ (a.natAbs : Int) ≤ 9223372036854775808 := by omega
  have B0 : 0 ≤ (b.natAbs : Int) ∧ (b.natAbs : Int) ≤ 9223372036854775808 := by omega
  have C0 : 0 < (c.natAbs : Int) ∧ (c.natAbs : Int) ≤ 9223372036854775808 := by omega
  have e1 : ((a.natAbs * b.natAbs / 18446744073709551616 : Nat) : Int) = (a.natAbs : Int) * b.natAbs / 18446744073709551616 := by simp
  have e2 : ((a.natAbs * b.natAbs % 18446744073709551616 : Nat) : Int) = (a.natAbs : Int) * b.natAbs % 18446744073709551616 := by simp
  rw [e1, e2] at ml
  clear e1 e2
  generalize (a.natAbs : Int) = A at *
  generalize (b.natAbs : Int) = B at *
  generalize (c.natAbs : Int) = C at *
  obtain ⟨p0, p1⟩ := halves A B A0.1 A0.2 B0.1 B0.2
  generalize A * B = P at *
  have h0 : 0 ≤ P / 18446744073709551616 := by omega
  have l0 : 0 ≤ P % 18446744073709551616 := by omega
  have l1 : P % 18446744073709551616 < 18446744073709551616 := by omega
  have hp : P / 18446744073709551616 * 18446744073709551616 + P % 18446744073709551616 = P := by omega
  have MA := Lib.hid ma; have MB := Lib.hid mb; have MC := Lib.hid mc
  obtain ⟨C1, C2⟩ := C0
  have h5 : P / 18446744073709551616 ≤ 18446744073709551615 := by omega
  by_cases hov : C ≤ P / 18446744073709551616
  · have h6 : 18446744073709551616 ≤ P / C := (Int.le_ediv_iff_mul_le C1).2 (by omega)
    have Z := Lib.hid (s3 h6)
    have DV := Lib.hid (ref_quotient_over (P / 18446744073709551616) (P % 18446744073709551616) C hov w)
    generalize P / 18446744073709551616 = H at *
    generalize P % 18446744073709551616 = L at *
    have ML := Lib.hid ml
    clear ma mb mc ml s1 s2 s3 hp h6
    go_enter Try.func21, Try.ntmps21
    go_wp2_with fail
    refine MA.out.mono ?_; rintro e w' ⟨rfl, rfl⟩
    go_wp2_with fail
    refine MB.out.mono ?_; rintro e w' ⟨rfl, rfl⟩
    go_wp2_with fail
    refine ML.out.mono ?_; rintro e w' ⟨rfl, rfl⟩
    go_wp2_with fail
    refine MC.out.mono ?_; rintro e w' ⟨rfl, rfl⟩
    go_wp2_with fail
    refine DV.out.mono ?_; rintro e w1 ⟨rfl, rfl⟩
    go_wp2_with fail
    go_ret2
    exact ⟨res_of Z.out, rfl⟩
  · have dv := ref_quotient (P / 18446744073709551616) (P % 18446744073709551616) C h0 l0 l1 C2 (by omega) w
    rw [hp] at dv
    have DV := Lib.hid dv
    have q0 : 0 ≤ P / C := Int.ediv_nonneg p0 (by omega)
    have q1 : P / C ≤ 18446744073709551615 := by
      have : P / C < 18446744073709551616 := Int.ediv_lt_of_lt_mul C1 (by omega)
      omega
    have r0 : 0 ≤ P % C := Int.emod_nonneg P (by omega)
    have r1 : P % C < C := Int.emod_lt_of_pos P C1
    clear dv s3 hov
    generalize P / C = Q at *
    generalize P % C = R at *
    generalize P / 18446744073709551616 = H at *
    generalize P % 18446744073709551616 = L at *
    have ML := Lib.hid ml
    clear ma mb mc ml hp
    generalize ea : decide (a < 0) = sa at *
    generalize eb : decide (b < 0) = sb at *
    generalize ec : decide (c < 0) = sc at *
    cases hn : (!(sa == !(sb == sc)))
    · rw [s1 (by revert hn; cases sa <;> cases sb <;> cases sc <;> decide)]
      exact ref_md_pos a b c A B C H L Q R sa sb sc w hc q0 q1 r0 MA MB MC ML DV ea eb ec hn
    · rw [s2 (by revert hn; cases sa <;> cases sb <;> cases sc <;> decide)]
      exact ref_md_neg a b c A B C H L Q R sa sb sc w hc q0 q1 r0 MA MB MC ML DV ea eb ec hn
end Go.Proofs.Ytaccdpdabmchkaa
