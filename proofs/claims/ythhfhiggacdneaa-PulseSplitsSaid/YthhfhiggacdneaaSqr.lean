/-
  Out of elder texts: NumA, NumB, NumD.
-/
import Derived.Test.YthhfhiggacdneaaChecked
import Derived.Test.YthhfhiggacdneaaArith
import Derived.WalkKit
import Derived.WalkLawsBesides
import Derived.ProofKit
import Derived.Lib.Hide
import Derived.Deep.QuietTactic
import Derived.BigQuiet
import Derived.Test.YthhfhiggacdneaaBase
import Derived.Test.YthhfhiggacdneaaShelf
import Derived.Lib.ItoaNum
namespace Go.Proofs.Ythhfhiggacdneaa
open Go.RowKit

open Go.RowKit

theorem quo_zero (n : Int) : quo n 0 = (0, 4) := rfl
theorem quo_over : quo (-9223372036854775808) (-1) = (0, 3) := by decide
theorem quo_of {a b q r : Int} (a0 : -9223372036854775808 ≤ a) (a1 : a ≤ 9223372036854775807) (hb : b ≠ 0) (hov : ¬ (a = -9223372036854775808 ∧ b = -1)) (h : a = b * q + r) (hr : (0 ≤ r ∧ r < b) ∨ (b < r ∧ r ≤ 0)) : quo a b = (q, 0) := by
  have := fl_range a b a0 a1 hb hov
  have e := fl_of h hr
  unfold quo; rw [if_neg hb, fit_in this.1 this.2, e]
theorem min_tdiv {b t : Int} (h : (-9223372036854775808 : Int).tdiv b = t) (h0 : -9223372036854775808 ≤ t) (h1 : t ≤ 9223372036854775807) : wrap64 (-Int.tdiv 9223372036854775808 b) = t := by
  rw [show (-9223372036854775808 : Int) = -(9223372036854775808) from rfl, Int.neg_tdiv] at h
  rw [h]; exact IntWalk.wrap64_in _ ⟨h0, h1⟩
theorem min_tmod {b m : Int} (h : (-9223372036854775808 : Int).tmod b = m) : -(9223372036854775808 % b) = m := by
  rw [show (-9223372036854775808 : Int) = -(9223372036854775808) from rfl, Int.neg_tmod, Int.tmod_eq_emod_of_nonneg (by omega)] at h
  exact h
theorem rnd_zero (n : Int) : rnd n 0 = (0, 4) := rfl
theorem rnd_over : rnd (-9223372036854775808) (-1) = (0, 3) := by decide
theorem abs_cases (r b : Int) (hr : (0 ≤ r ∧ r < b) ∨ (b < r ∧ r ≤ 0)) (b0 : -9223372036854775808 ≤ b) (b1 : b ≤ 9223372036854775807) : (0 ≤ r ∧ r < b ∧ (r.natAbs : Int) = r ∧ (b.natAbs : Int) = b) ∨ (b < r ∧ r ≤ 0 ∧ (r.natAbs : Int) = -r ∧ (b.natAbs : Int) = -b) := by omega
open Go.RowKit
/-- What Isqrt answers. -/
def rt (n : Int) : Int × Int := if n < 0 then (0, 1) else ((Nat.sqrt n.toNat : Nat), 0)
theorem rt_neg {n : Int} (h : n < 0) : rt n = (0, 1) := if_pos h
theorem rt_of {n : Int} (h : 0 ≤ n) : ∃ r : Int, 0 ≤ r ∧ r * r ≤ n ∧ n < (r + 1) * (r + 1) ∧ rt n = (r, 0) := by
  have h1 := Nat.sqrt_le n.toNat
  have h2 := Nat.lt_succ_sqrt n.toNat
  have e1 : ((Nat.sqrt n.toNat * Nat.sqrt n.toNat : Nat) : Int) ≤ n := by omega
  have e2 : n < ((Nat.succ (Nat.sqrt n.toNat) * Nat.succ (Nat.sqrt n.toNat) : Nat) : Int) := by omega
  exact ⟨(Nat.sqrt n.toNat : Nat), by omega, by simpa using e1, by simpa using e2, if_neg (by omega)⟩
theorem sq_lt {a b : Int} (h : a < b) (h0 : 0 ≤ a) : a * a < b * b := by
  have h1 := Int.mul_le_mul_of_nonneg_left (a := a) (b := b - 1) (c := a) (by omega) h0
  have h2 := Int.mul_lt_mul_of_pos_right (a := a) (b := b) (c := b) h (by omega)
  have h3 := Int.mul_le_mul_of_nonneg_left (a := a) (b := b) (c := a) (by omega) h0
  omega
theorem le_of_sq {a b : Int} (h : a * a < (b + 1) * (b + 1)) (h0 : 0 ≤ b) : a ≤ b := by
  rcases Int.lt_or_le b a with c | c
  · have := Int.mul_le_mul (a := b + 1) (b := b + 1) (c := a) (d := a) (by omega) (by omega) (by omega) (by omega)
    omega
  · exact c
/-- The test of the document's answer. -/
theorem root_test {n r y : Int} (r0 : 0 ≤ r) (h1 : r * r ≤ n) (h2 : n < (r + 1) * (r + 1)) (hy : 0 < y) : y ≤ n / y ↔ y ≤ r := by
  rw [Int.le_ediv_iff_mul_le hy]
  refine ⟨fun h => le_of_sq (by omega) r0, fun h => ?_⟩
  have := Int.mul_le_mul (a := y) (b := y) (c := r) (d := r) h h (by omega) r0
  omega
/-- A step of Newton's method stays above the root. -/
theorem newton_ge {n r x : Int} (h1 : r * r ≤ n) (hx : 0 < x) : r ≤ (x + n / x) / 2 := by
  have h : 2 * r - x ≤ n / x := by
    refine (Int.le_ediv_iff_mul_le hx).2 ?_
    have s : 0 ≤ (r - x) * (r - x) := by
      rcases Int.le_total 0 (r - x) with c | c
      · exact Int.mul_nonneg c c
      · exact Int.mul_nonneg_of_nonpos_of_nonpos c c
    rw [Int.sub_mul, Int.mul_sub, Int.mul_sub, Int.mul_comm x r] at s
    rw [Int.sub_mul, Int.mul_assoc]
    omega
  omega
/-- It stops at the root. -/
theorem newton_stop {n r x : Int} (h2 : n < (r + 1) * (r + 1)) (r0 : 0 ≤ r) (hr : r ≤ x) (hx : 0 < x) (hs : x ≤ (x + n / x) / 2) : x = r := by
  rcases Int.lt_or_le r x with c | c
  · have : n / x < x := by
      refine Int.ediv_lt_of_lt_mul hx ?_
      have := Int.mul_le_mul (a := r + 1) (b := r + 1) (c := x) (d := x) (by omega) (by omega) (by omega) (by omega)
      omega
    omega
  · omega
theorem root_le {n r : Int} (h1 : r * r ≤ n) (h : n ≤ 9223372036854775807) : r ≤ 3037000499 :=
  le_of_sq (b := 3037000499) (by omega) (by omega)
theorem root_under {n r p : Int} (h1 : r * r ≤ n) (h2 : n < p * p) (p0 : 0 ≤ p) : r ≤ p := by
  rcases Int.lt_or_le p r with c | c
  · have := sq_lt c p0; omega
  · exact c
set_option maxHeartbeats 1000000 in
theorem isqrt_pos (n l p r : Int) (k : Nat) (h0 : 0 < n) (h1 : n ≤ 9223372036854775807) (c41 : Hid (∀ w : World, Calls Try.prog 48 #[.int .u64 n] w fun e w' => e = .returned (.int .i64 l) ∧ w = w'))
    (hk : (l + 1) / 2 = k) (l0 : 0 ≤ l) (l1 : l ≤ 63) (hp : wrap64 (2 ^ k) = p) (p1 : r ≤ p) (p2 : p ≤ 4294967296) (r0 : 1 ≤ r) (r1 : r * r ≤ n) (r2 : n < (r + 1) * (r + 1)) (w : World) :
    Calls Try.prog 46 #[.int .i64 n] w fun e w' => e = Res (r, 0) ∧ w = w' := by
  have hz : (n == 0) = false := beq_f (by omega)
  have R1 := Lib.hid r1; have R2 := Lib.hid r2; clear r1 r2
  go_enter Try.func46, Try.ntmps46
  go_wp2_with fail
  refine (c41.out _).mono ?_; rintro e w' ⟨rfl, rfl⟩
  go_wp2_with fail
  have HP := Lib.hid hp
  clear hp hk
  go_loop [4] (fun x => ∃ y : Int, x = .int .i64 y ∧ r ≤ y ∧ y ≤ 4294967296) (fun x => (intOf x).toNat)
  case atStart => exact ⟨_, rfl, by rw [HP.out]; exact p1, by rw [HP.out]; exact p2⟩
  case round =>
    obtain ⟨x, rfl, x1, x2⟩ := hrel
    have q0 : 0 ≤ n / x := Int.ediv_nonneg (by omega) (by omega)
    have q1 : n / x ≤ n := Int.ediv_le_self _ (by omega)
    have ge := newton_ge (x := x) R1.out (by omega)
    have m0 : 0 ≤ x + n / x := by omega
    have m1 : x + n / x ≤ 9223372036854775807 := by
      by_cases c : x = 1
      · subst c
        have e : r = 1 := by omega
        subst e
        have := R2.out
        have e2 : n / 1 = n := Int.ediv_one n
        omega
      · have : n / x ≤ n / 2 := ((ediv_size n x (by omega)).1 (by omega)).2.2 (by omega)
        omega
    by_cases hs : x ≤ (x + n / x) / 2
    · have e := newton_stop R2.out (by omega) x1 (by omega) hs
      subst e
      have d := dle_t hs
      clear ge
      go_wp2_with fail
      go_ret2
      exact ⟨rfl, rfl⟩
    · have d := dle_f (show (x + n / x) / 2 < x by omega)
      have hs' : (x + n / x) / 2 < x := by omega
      clear hs
      go_wp2_with fail
      go_round
      case rel => exact ⟨_, rfl, ge, by omega⟩
      case measure => simp [intOf]; omega
/-- additive/num.Isqrt -/
theorem num_Isqrt (n : Int) (h0 : -9223372036854775808 ≤ n) (h1 : n ≤ 9223372036854775807) (w : World) :
    Calls Try.prog 46 #[.int .i64 n] w fun e w' => e = Res (rt n) ∧ w = w' := by
  rcases (show n < 0 ∨ n = 0 ∨ 0 < n by omega) with hn | hn | hn
  · have Z := Lib.hid (rt_neg hn)
    go_enter Try.func46, Try.ntmps46
    go_wp2_with fail
    go_ret2
    exact ⟨res_of Z.out, rfl⟩
  · subst hn
    have Z : Hid (rt 0 = (0, 0)) := Lib.hid (by decide)
    go_enter Try.func46, Try.ntmps46
    go_wp2_with fail
    go_ret2
    exact ⟨res_of Z.out, rfl⟩
  · obtain ⟨r, r0, r1, r2, e⟩ := rt_of (n := n) (by omega)
    rw [e]
    have rp : 1 ≤ r := by
      rcases (show r = 0 ∨ 1 ≤ r by omega) with c | c
      · subst c; omega
      · exact c
    obtain ⟨b1, b2, b3⟩ := Lib.bitLenAux_bounds 64 n.toNat (by omega) (by omega)
    have b4 : Lib.bitLenAux 64 n.toNat ≤ 63 := Lib.bitLen_le n.toNat 63 (by omega) (by omega)
    have c41 : Hid (∀ w : World, Calls Try.prog 48 #[.int .u64 n] w fun e w' => e = .returned (.int .i64 (Lib.bitLenAux 64 n.toNat)) ∧ w = w') := Lib.hid fun w =>
      (Try.bits_Len64 n w (by omega) (by omega)).mono fun e w' ⟨he, hw⟩ => ⟨he, hw.symm⟩
    generalize Lib.bitLenAux 64 n.toNat = l at *
    have hk : ((l : Int) + 1) / 2 = ((l + 1) / 2 : Nat) := by omega
    have hl0 : (0 : Int) ≤ l := by omega
    have hl1 : (l : Int) ≤ 63 := by omega
    have up : (2 : Nat) ^ ((l + 1) / 2) ≤ 2 ^ 32 := Nat.pow_le_pow_right (by omega) (by omega)
    have lo : (2 : Nat) ^ l ≤ 2 ^ ((l + 1) / 2) * 2 ^ ((l + 1) / 2) := by rw [← Nat.pow_add]; exact Nat.pow_le_pow_right (by omega) (by omega)
    obtain ⟨p, hp⟩ : ∃ p : Nat, 2 ^ ((l + 1) / 2) = p := ⟨_, rfl⟩
    have hpi : ((2 : Int) ^ ((l + 1) / 2)) = p := by rw [← hp]; simp
    rw [hp] at up lo
    have pu : (p : Int) ≤ 4294967296 := Int.ofNat_le.2 (Nat.le_trans up (by decide))
    have hw : wrap64 (2 ^ ((l + 1) / 2)) = (p : Int) := by rw [hpi]; exact IntWalk.wrap64_in _ (by omega)
    have hn2 : n < ((p * p : Nat) : Int) := by omega
    rw [Int.natCast_mul] at hn2
    have pr : r ≤ p := root_under r1 hn2 (Int.natCast_nonneg p)
    exact isqrt_pos n l p r ((l + 1) / 2) hn h1 c41 hk hl0 hl1 hw pr pu rp r1 r2 w
set_option maxHeartbeats 1000000 in
/-- additive/additiveref01.Isqrt -/
theorem ref_Isqrt (n : Int) (_h0 : -9223372036854775808 ≤ n) (h1 : n ≤ 9223372036854775807) (w : World) :
    Calls Try.prog 35 #[.int .i64 n] w fun e w' => e = Res (rt n) ∧ w = w' := by
  by_cases hn : n < 0
  · have Z := Lib.hid (rt_neg hn)
    go_enter Try.func35, Try.ntmps35
    go_wp2_with fail
    go_ret2
    exact ⟨res_of Z.out, rfl⟩
  · obtain ⟨r, r0, r1, r2, e⟩ := rt_of (n := n) (by omega)
    rw [e]
    have rb := root_le r1 h1
    have R := Lib.hid fun y => root_test (y := y) r0 r1 r2
    clear r1 r2 e
    have hn0 : 0 ≤ n := by omega
    go_enter Try.func35, Try.ntmps35
    go_wp2_with fail
    go_loop [4, 5] (fun x b => ∃ (y : Int) (c : Int) (k : Nat), x = .int .i64 y ∧ b = .int .i64 c ∧ 0 ≤ y ∧ y ≤ r ∧ k ≤ 32 ∧ ((k = 0 ∧ c = 0 ∧ y = r) ∨ (0 < k ∧ c * 2 = 2 ^ k ∧ r < y + c * 2))) (fun _ b => (intOf b).toNat)
    case atStart => exact ⟨0, 2147483648, 32, rfl, rfl, by omega, by omega, by omega, .inr ⟨by omega, by decide, by omega⟩⟩
    case round =>
      obtain ⟨y, c, k, rfl, rfl, y0, y1, k1, hk⟩ := hrel
      rcases hk with ⟨hk, hc, hy⟩ | ⟨hk, hc, hy⟩
      · subst hc hy
        clear hk k1
        go_wp2_with fail
        go_ret2
        exact ⟨rfl, rfl⟩
      · obtain ⟨j, rfl⟩ : ∃ j, k = j + 1 := ⟨k - 1, by omega⟩
        have hc2 : c = 2 ^ j := by rw [Int.pow_succ] at hc; omega
        have cp : 0 < c := by rw [hc2]; exact Int.pow_pos (by omega)
        have cu : c ≤ 2147483648 := by
          have : (2 : Nat) ^ j ≤ 2 ^ 31 := Nat.pow_le_pow_right (by omega) (by omega)
          have e : ((2 ^ j : Nat) : Int) = 2 ^ j := by simp
          omega
        have nx : ∀ z : Int, z ≤ r → r < z + c → ((j = 0 ∧ c / 2 = 0 ∧ z = r) ∨ (0 < j ∧ c / 2 * 2 = 2 ^ j ∧ r < z + c / 2 * 2)) := fun z h5 h6 => by
          rcases (show j = 0 ∨ 0 < j by omega) with hj | hj
          · subst hj
            have e1 : c = 1 := hc2
            subst e1
            exact .inl ⟨rfl, by omega, by omega⟩
          · obtain ⟨i, rfl⟩ : ∃ i, j = i + 1 := ⟨j - 1, by omega⟩
            have e2 : c / 2 * 2 = c := by rw [Int.pow_succ] at hc2; omega
            exact .inr ⟨hj, by rw [e2]; exact hc2, by omega⟩
        have NX := Lib.hid nx
        have t := R.out (y + c) (by omega)
        have q0 : 0 ≤ n / (y + c) := Int.ediv_nonneg hn0 (by omega)
        have q1 : n / (y + c) ≤ n := Int.ediv_le_self _ hn0
        have hc' := Lib.hid hc; have hc2' := Lib.hid hc2
        have dc := dlt_t cp
        clear nx hc hc2
        by_cases hs : y + c ≤ r
        · have d1 := t.2 hs
          have d := dle_t d1
          clear t
          go_wp2_with fail
          go_round
          case rel => exact ⟨_, _, j, rfl, rfl, by omega, by omega, by omega, NX.out _ (by omega) (by omega)⟩
          case measure => simp [intOf]; omega
        · have d1 : n / (y + c) < y + c := by
            rcases Int.lt_or_le (n / (y + c)) (y + c) with u | u
            · exact u
            · exact absurd (t.1 u) hs
          have d := dle_f d1
          have hs' : r < y + c := by omega
          clear t hs
          go_wp2_with fail
          go_round
          case rel => exact ⟨_, _, j, rfl, rfl, by omega, by omega, by omega, NX.out _ (by omega) (by omega)⟩
          case measure => simp [intOf]; omega
end Go.Proofs.Ythhfhiggacdneaa
