/-
  Contracts of package wire's calls: each answers as the chapter says.
-/
import Derived.Test.YtpckhcnlffddcaaWireQ
namespace Go.Proofs.Ytpckhcnlffddcaa
open Go.RowKit
theorem uint_key (n : Int) (n0 : -9223372036854775808 ≤ n) (n1 : n ≤ 9223372036854775807) (k : Nat) (h1 : 1 ≤ k) (h8 : k ≤ 8) :
    (n / 2 ^ (8 * k) = 0 ∧ uintS n k = (enc (n % 18446744073709551616).toNat k, 0)) ∨ (n / 2 ^ (8 * k) ≠ 0 ∧ uintS n k = ([], 3)) := by
  by_cases h : n / 2 ^ (8 * k) = 0
  · refine .inl ⟨h, ?_⟩
    have hn : 0 ≤ n := by
      rcases (show k = 1 ∨ k = 2 ∨ k = 3 ∨ k = 4 ∨ k = 5 ∨ k = 6 ∨ k = 7 ∨ k = 8 by omega) with rfl | rfl | rfl | rfl | rfl | rfl | rfl | rfl <;> simp only [Nat.reduceMul, Int.reducePow] at h <;> omega
    rw [uintS_ok (by omega) (by
      rw [Int.toNat_natCast]
      rcases (show k = 1 ∨ k = 2 ∨ k = 3 ∨ k = 4 ∨ k = 5 ∨ k = 6 ∨ k = 7 ∨ k = 8 by omega) with rfl | rfl | rfl | rfl | rfl | rfl | rfl | rfl <;> simp only [Nat.reduceMul, Int.reducePow] at h ⊢ <;> omega), Int.toNat_natCast, show n % 18446744073709551616 = n by omega]
  · refine .inr ⟨h, uintS_over (by omega) ?_⟩
    rw [Int.toNat_natCast]
    rcases (show k = 1 ∨ k = 2 ∨ k = 3 ∨ k = 4 ∨ k = 5 ∨ k = 6 ∨ k = 7 ∨ k = 8 by omega) with rfl | rfl | rfl | rfl | rfl | rfl | rfl | rfl <;> simp only [Nat.reduceMul, Int.reducePow] at h ⊢ <;> omega
theorem int_key (n : Int) (n0 : -9223372036854775808 ≤ n) (n1 : n ≤ 9223372036854775807) (k : Nat) (h1 : 1 ≤ k) (h8 : k ≤ 8) :
    ((n / 2 ^ (8 * k - 1) = 0 ∨ n / 2 ^ (8 * k - 1) = -1) ∧ intS n k = (enc (n % 18446744073709551616).toNat k, 0)) ∨ ((n / 2 ^ (8 * k - 1) ≠ 0 ∧ n / 2 ^ (8 * k - 1) ≠ -1) ∧ intS n k = ([], 3)) := by
  by_cases h : n / 2 ^ (8 * k - 1) = 0 ∨ n / 2 ^ (8 * k - 1) = -1
  · refine .inl ⟨h, ?_⟩
    rw [intS_ok (by omega) (by
      rw [Int.toNat_natCast]
      rcases (show k = 1 ∨ k = 2 ∨ k = 3 ∨ k = 4 ∨ k = 5 ∨ k = 6 ∨ k = 7 ∨ k = 8 by omega) with rfl | rfl | rfl | rfl | rfl | rfl | rfl | rfl <;> simp only [Nat.reduceMul, Nat.reduceSub, Int.reducePow] at h ⊢ <;> omega), Int.toNat_natCast]
  · refine .inr ⟨by omega, intS_over (by omega) ?_⟩
    rw [Int.toNat_natCast]
    rcases (show k = 1 ∨ k = 2 ∨ k = 3 ∨ k = 4 ∨ k = 5 ∨ k = 6 ∨ k = 7 ∨ k = 8 by omega) with rfl | rfl | rfl | rfl | rfl | rfl | rfl | rfl <;> simp only [Nat.reduceMul, Nat.reduceSub, Int.reducePow] at h ⊢ <;> omega
set_option maxHeartbeats 1000000 in
/-- additive/wire.Uint -/
theorem wire_Uint (n w : Int) (n0 : -9223372036854775808 ≤ n) (n1 : n ≤ 9223372036854775807) (W : World) :
    Calls Try.prog 11 #[.int .i64 n, .int .i64 w] W fun e W' => e = ResS (uintS n w) ∧ Ext W W' := by
  by_cases hw : 1 ≤ w ∧ w ≤ 8
  case neg =>
    have Z := Lib.hid (uintS_arg (n := n) hw)
    have C := Lib.hid (wire_valid_f w hw W)
    clear hw
    go_enter Try.func11, Try.ntmps11
    go_wp2_with fail
    refine (C.out).mono ?_; rintro e w' ⟨rfl, rfl⟩
    go_wp2_with fail
    go_ret2
    exact ⟨resS_of Z.out, Ext.refl _⟩
  obtain ⟨k, rfl⟩ : ∃ k : Nat, w = k := ⟨w.toNat, by omega⟩
  have C := Lib.hid (wire_valid_t k hw.1 hw.2 W)
  have k8 : (k : Int) ≤ 8 := hw.2
  have k0 : 0 ≤ 8 * (k : Int) := by omega
  rcases uint_key n n0 n1 k (by omega) (by omega) with ⟨h, Z⟩ | ⟨h, Z⟩
  · have d := bne_f h
    have Z := Lib.hid Z
    have E := Lib.hid (wire_encode n k (by omega))
    clear h hw n0 n1
    go_enter Try.func11, Try.ntmps11
    go_wp2_with fail
    refine (C.out).mono ?_; rintro e w' ⟨rfl, rfl⟩
    go_wp2_with fail
    refine (E.out _).mono ?_; rintro e w1 ⟨rfl, h1⟩
    go_wp2_with fail
    go_ret2
    exact ⟨resS_of Z.out, h1⟩
  · have d := bne_t h
    have Z := Lib.hid Z
    clear h hw n0 n1
    go_enter Try.func11, Try.ntmps11
    go_wp2_with fail
    refine (C.out).mono ?_; rintro e w' ⟨rfl, rfl⟩
    go_wp2_with fail
    go_ret2
    exact ⟨resS_of Z.out, Ext.refl _⟩
set_option maxHeartbeats 1000000 in
/-- additive/wire.Int -/
theorem wire_Int (n w : Int) (n0 : -9223372036854775808 ≤ n) (n1 : n ≤ 9223372036854775807) (W : World) :
    Calls Try.prog 14 #[.int .i64 n, .int .i64 w] W fun e W' => e = ResS (intS n w) ∧ Ext W W' := by
  by_cases hw : 1 ≤ w ∧ w ≤ 8
  case neg =>
    have Z := Lib.hid (intS_arg (n := n) hw)
    have C := Lib.hid (wire_valid_f w hw W)
    clear hw
    go_enter Try.func14, Try.ntmps14
    go_wp2_with fail
    refine (C.out).mono ?_; rintro e w' ⟨rfl, rfl⟩
    go_wp2_with fail
    go_ret2
    exact ⟨resS_of Z.out, Ext.refl _⟩
  obtain ⟨k, rfl⟩ : ∃ k : Nat, w = k := ⟨w.toNat, by omega⟩
  have C := Lib.hid (wire_valid_t k hw.1 hw.2 W)
  have k8 : (k : Int) ≤ 8 := hw.2
  have k1 : 1 ≤ (k : Int) := hw.1
  have k0 : 0 ≤ 8 * (k : Int) - 1 := by omega
  have kt : (8 * (k : Int) - 1).toNat = 8 * k - 1 := by omega
  have km : min (8 * k - 1) 64 = 8 * k - 1 := by omega
  obtain ⟨q, hq⟩ : ∃ q, n / 2 ^ (8 * k - 1) = q := ⟨_, rfl⟩
  have key := int_key n n0 n1 k (by omega) (by omega)
  rw [hq] at key
  rcases key with ⟨h | h, Z⟩ | ⟨⟨h, h'⟩, Z⟩
  · subst h
    have Z := Lib.hid Z
    have E := Lib.hid (wire_encode n k (by omega))
    clear hw n0 n1
    go_enter Try.func14, Try.ntmps14
    go_wp2_with fail
    refine (C.out).mono ?_; rintro e w' ⟨rfl, rfl⟩
    go_wp2_with fail
    refine (E.out _).mono ?_; rintro e w1 ⟨rfl, h1⟩
    go_wp2_with fail
    go_ret2
    exact ⟨resS_of Z.out, h1⟩
  · subst h
    have Z := Lib.hid Z
    have E := Lib.hid (wire_encode n k (by omega))
    clear hw n0 n1
    go_enter Try.func14, Try.ntmps14
    go_wp2_with fail
    refine (C.out).mono ?_; rintro e w' ⟨rfl, rfl⟩
    go_wp2_with fail
    refine (E.out _).mono ?_; rintro e w1 ⟨rfl, h1⟩
    go_wp2_with fail
    go_ret2
    exact ⟨resS_of Z.out, h1⟩
  · have d := bne_t h
    have d' := bne_t h'
    have Z := Lib.hid Z
    clear h h' hw n0 n1
    go_enter Try.func14, Try.ntmps14
    go_wp2_with fail
    refine (C.out).mono ?_; rintro e w' ⟨rfl, rfl⟩
    go_wp2_with fail
    go_ret2
    exact ⟨resS_of Z.out, Ext.refl _⟩
end Go.Proofs.Ytpckhcnlffddcaa

