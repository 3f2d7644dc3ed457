/-
  Contracts of package num's MulDiv and Mul: the floor of the exact quotient a * b / c, or the error number.
-/
import Derived.Test.YtflalomgifeaaaaDoorDiv64
namespace Go.Proofs.YtflalomgifeaaaaDoor
open Go.RowKit
theorem neg_back (q : Int) (h0 : 0 ≤ q) (h1 : q ≤ 9223372036854775808) : wrap64 (IntKind.u64.wrap (-q)) = -q := by
  rw [IntKind.wrap_u64]; unfold wrap64; omega
theorem num_negate (q r : Int) (q0 : 0 ≤ q) (q1 : q ≤ 18446744073709551615) (r0 : 0 ≤ r) (w : World) :
    Calls Tryd.prog 38 #[.int .u64 q, .int .u64 r] w fun e w' => e = Res (fit (if 0 < r then -(q + 1) else -q)) ∧ w = w' := by
  obtain ⟨z, hz⟩ : ∃ z, (if 0 < r then -(q + 1) else -q) = z := ⟨_, rfl⟩
  rw [hz]
  by_cases c1 : 9223372036854775808 < q
  · have G := Lib.hid (fit_out (s := z) (by rw [← hz]; split <;> omega))
    have d1 := dlt_t c1
    clear hz
    go_enter Tryd.func38, Tryd.ntmps38
    go_wp2
    go_ret2
    exact ⟨res_of G.out, rfl⟩
  have d1 := dlt_f (show q ≤ 9223372036854775808 by omega)
  by_cases hr : 0 < r
  · have dr := dlt_t hr
    rw [if_pos hr] at hz
    subst hz
    by_cases c2 : q = 9223372036854775808
    · have d2 := beq_t c2
      have G := Lib.hid (fit_out (s := -(q + 1)) (by omega))
      clear c2
      go_enter Tryd.func38, Tryd.ntmps38
      go_wp2
      go_ret2
      exact ⟨res_of G.out, rfl⟩
    · have d2 := beq_f c2
      have G := Lib.hid (fit_in (s := -(q + 1)) (by omega) (by omega))
      have nb := neg_back (q + 1) (by omega) (by omega)
      have hq : q < 9223372036854775808 := by omega
      clear c2
      go_enter Tryd.func38, Tryd.ntmps38
      go_wp2
      go_ret2
      exact ⟨res_of G.out, rfl⟩
  · have dr := dlt_f (show r ≤ 0 by omega)
    rw [if_neg hr] at hz
    subst hz
    have G := Lib.hid (fit_in (s := -q) (by omega) (by omega))
    have nb := neg_back q (by omega) (by omega)
    by_cases c2 : q = 9223372036854775808
    · have d2 := beq_t c2
      clear c2
      go_enter Tryd.func38, Tryd.ntmps38
      go_wp2
      go_ret2
      exact ⟨res_of G.out, rfl⟩
    · have d2 := beq_f c2
      clear c2
      go_enter Tryd.func38, Tryd.ntmps38
      go_wp2
      go_ret2
      exact ⟨res_of G.out, rfl⟩

theorem fl_pp {P C : Int} (hC : 0 < C) : fl P C = P / C := if_pos hC
theorem fl_nn {P C : Int} (hC : 0 < C) : fl (-P) (-C) = P / C := by
  unfold fl; rw [if_neg (by omega), Int.neg_neg, Int.neg_neg]
theorem fl_np {P C : Int} (hC : 0 < C) : fl (-P) C = if 0 < P % C then -(P / C + 1) else -(P / C) := by
  have e := Int.mul_ediv_add_emod P C
  have e0 := Int.emod_nonneg P (b := C) (by omega)
  have e1 := Int.emod_lt_of_pos P hC
  split
  · exact fl_of (q := -(P / C + 1)) (r := C - P % C) (by rw [Int.mul_neg, Int.mul_add]; omega) (by omega)
  · exact fl_of (q := -(P / C)) (r := 0) (by rw [Int.mul_neg]; omega) (by omega)
theorem fl_pn {P C : Int} (hC : 0 < C) : fl P (-C) = if 0 < P % C then -(P / C + 1) else -(P / C) := by
  rw [← fl_np hC]
  unfold fl; rw [if_neg (by omega), if_pos hC, Int.neg_neg]
theorem abs_of (a : Int) : (a < 0 ∧ a = -(a.natAbs : Int)) ∨ (0 ≤ a ∧ a = (a.natAbs : Int)) := by omega
/-- The floor of a * b / c, out of the sizes and the signs. -/
theorem quo_signs (a b c : Int) (hc : c ≠ 0) :
    (((decide (a < 0) != decide (b < 0)) = decide (c < 0)) → quo (a * b) c = fit ((a.natAbs : Int) * b.natAbs / c.natAbs)) ∧
    (((decide (a < 0) != decide (b < 0)) = !decide (c < 0)) → quo (a * b) c = fit (if 0 < (a.natAbs : Int) * b.natAbs % c.natAbs then -((a.natAbs : Int) * b.natAbs / c.natAbs + 1) else -((a.natAbs : Int) * b.natAbs / c.natAbs))) := by
  have hC : 0 < (c.natAbs : Int) := by omega
  have q : ∀ x, quo x c = fit (fl x c) := fun x => by unfold quo; rw [if_neg hc]
  rw [q]
  rcases abs_of a with ⟨a1, a2⟩ | ⟨a1, a2⟩ <;> rcases abs_of b with ⟨b1, b2⟩ | ⟨b1, b2⟩ <;> rcases abs_of c with ⟨c1, c2⟩ | ⟨c1, c2⟩
  all_goals
    first | rw [dlt_t a1] | rw [dlt_f a1]
    first | rw [dlt_t b1] | rw [dlt_f b1]
    first | rw [dlt_t c1] | rw [dlt_f c1]
    generalize (a.natAbs : Int) = A at *
    generalize (b.natAbs : Int) = B at *
    generalize (c.natAbs : Int) = C at *
    subst a2 b2 c2
    try simp only [Int.neg_mul, Int.mul_neg, Int.neg_neg]
    refine ⟨fun h => ?_, fun h => ?_⟩
    · first
      | (exfalso; revert h; decide)
      | rw [fl_pp hC]
      | rw [fl_nn hC]
    · first
      | (exfalso; revert h; decide)
      | rw [fl_np hC]
      | rw [fl_pn hC]
theorem quo_sizes (a b c : Int) (hc : c ≠ 0) (h : 18446744073709551616 ≤ (a.natAbs : Int) * b.natAbs / c.natAbs) : quo (a * b) c = (0, 3) := by
  obtain ⟨h1, h2⟩ := quo_signs a b c hc
  by_cases e : (decide (a < 0) != decide (b < 0)) = decide (c < 0)
  · rw [h1 e]; exact fit_out (by omega)
  · rw [h2 (by revert e; cases (decide (a < 0) != decide (b < 0)) <;> cases decide (c < 0) <;> decide)]
    exact fit_out (by split <;> omega)
/-- The product of two sizes in two halves. -/
theorem halves (A B : Int) (A0 : 0 ≤ A) (A1 : A ≤ 9223372036854775808) (B0 : 0 ≤ B) (B1 : B ≤ 9223372036854775808) : 0 ≤ A * B ∧ A * B ≤ 85070591730234615865843651857942052864 := by
  have h := Int.mul_le_mul (a := A) (b := B) (c := 9223372036854775808) (d := 9223372036854775808) A1 B1 B0 (by omega)
  exact ⟨Int.mul_nonneg A0 B0, by omega⟩
set_option maxHeartbeats 1000000 in
theorem num_MulDiv (a b c : Int) (a0 : -9223372036854775808 ≤ a) (a1 : a ≤ 9223372036854775807) (b0 : -9223372036854775808 ≤ b) (b1 : b ≤ 9223372036854775807) (c0 : -9223372036854775808 ≤ c) (c1 : c ≤ 9223372036854775807) (w : World) :
    Calls Tryd.prog 22 #[.int .i64 a, .int .i64 b, .int .i64 c] w fun e w' => e = Res (quo (a * b) c) ∧ Ext w w' := by
  by_cases hc : c = 0
  · subst hc
    go_enter Tryd.func22, Tryd.ntmps22
    go_wp2_with fail
    go_ret2
    exact ⟨res_of (quo_zero _), Ext.refl _⟩
  obtain ⟨s1, s2⟩ := quo_signs a b c hc
  have s3 := quo_sizes a b c hc
  have ma := num_magnitude a a0 a1 w
  have mb := num_magnitude b b0 b1 w
  have mc := num_magnitude c c0 c1 w
  have ml := Tryd.bits_Mul64 a.natAbs b.natAbs (by omega) (by omega) w
  have A0 : 0 ≤ (a.natAbs : Int) ∧ (a.natAbs : Int) ≤ 9223372036854775808 := by omega
  have B0 : 0 ≤ (b.natAbs : Int) ∧ (b.natAbs : Int) ≤ 9223372036854775808 := by omega
  have C0 : 0 < (c.natAbs : Int) ∧ (c.natAbs : Int) ≤ 9223372036854775808 := by omega
  have e1 : ((a.natAbs * b.natAbs / 18446744073709551616 : Nat) : Int) = (a.natAbs : Int) * b.natAbs / 18446744073709551616 := by simp
  have e2 : ((a.natAbs * b.natAbs % 18446744073709551616 : Nat) : Int) = (a.natAbs : Int) * b.natAbs % 18446744073709551616 := by simp
  rw [e1, e2] at ml
  clear e1 e2
  generalize (a.natAbs : Int) = A at *
  generalize (b.natAbs : Int) = B at *
  generalize (c.natAbs : Int) = C at *
  obtain ⟨p0, p1⟩ := halves A B A0.1 A0.2 B0.1 B0.2
  generalize A * B = P at *
  have h0 : 0 ≤ P / 18446744073709551616 := by omega
  have l0 : 0 ≤ P % 18446744073709551616 := by omega
  have l1 : P % 18446744073709551616 < 18446744073709551616 := by omega
  have hp : P / 18446744073709551616 * 18446744073709551616 + P % 18446744073709551616 = P := by omega
  have MA := Lib.hid ma; have MB := Lib.hid mb; have MC := Lib.hid mc
  obtain ⟨C1, C2⟩ := C0
  have h5 : P / 18446744073709551616 ≤ 18446744073709551615 := by omega
  by_cases hov : C ≤ P / 18446744073709551616
  · have h6 : 18446744073709551616 ≤ P / C := (Int.le_ediv_iff_mul_le C1).2 (by omega)
    have Z := Lib.hid (s3 h6)
    have dv := dle_t hov
    generalize P / 18446744073709551616 = H at *
    generalize P % 18446744073709551616 = L at *
    have ML := Lib.hid ml
    clear ma mb mc ml s1 s2 s3 hp h6
    go_enter Tryd.func22, Tryd.ntmps22
    go_wp2_with fail
    refine MA.out.mono ?_; rintro e w' ⟨rfl, rfl⟩
    go_wp2_with fail
    refine MB.out.mono ?_; rintro e w' ⟨rfl, rfl⟩
    go_wp2_with fail
    refine ML.out.mono ?_; rintro e w' ⟨rfl, rfl⟩
    go_wp2_with fail
    refine MC.out.mono ?_; rintro e w' ⟨rfl, rfl⟩
    go_wp2_with fail
    go_ret2
    exact ⟨res_of Z.out, Ext.refl _⟩
  · have dv := bits_Div64 (P / 18446744073709551616) (P % 18446744073709551616) C h0 l0 l1 (by omega) (by omega) w
    rw [hp] at dv
    have DV := Lib.hid dv
    have d0 := dle_f (show P / 18446744073709551616 < C by omega)
    have hlt : P / 18446744073709551616 < C := by omega
    have q0 : 0 ≤ P / C := Int.ediv_nonneg p0 (by omega)
    have q1 : P / C ≤ 18446744073709551615 := by
      have : P / C < 18446744073709551616 := Int.ediv_lt_of_lt_mul C1 (by omega)
      omega
    have r0 : 0 ≤ P % C := Int.emod_nonneg P (by omega)
    have r1 : P % C < C := Int.emod_lt_of_pos P C1
    clear dv s3 hov
    generalize P / C = Q at *
    generalize P % C = R at *
    generalize P / 18446744073709551616 = H at *
    generalize P % 18446744073709551616 = L at *
    have ML := Lib.hid ml
    have ng := num_negate Q R q0 q1 r0
    generalize (if 0 < R then -(Q + 1) else -Q) = z at *
    have NG := Lib.hid ng
    clear ma mb mc ml hp ng
    rcases sign_cases a with ⟨ha, da⟩ | ⟨ha, da⟩ <;> rcases sign_cases b with ⟨hb, db⟩ | ⟨hb, db⟩ <;> rcases sign_cases c with ⟨hc', dc⟩ | ⟨hc', dc⟩
    all_goals
      rw [da, db, dc] at s1 s2
      first
      | (have Z := Lib.hid (s2 rfl); clear s1 s2
         go_enter Tryd.func22, Tryd.ntmps22
         go_wp2_with fail
         refine MA.out.mono ?_; rintro e w' ⟨rfl, rfl⟩
         go_wp2_with fail
         refine MB.out.mono ?_; rintro e w' ⟨rfl, rfl⟩
         go_wp2_with fail
         refine ML.out.mono ?_; rintro e w' ⟨rfl, rfl⟩
         go_wp2_with fail
         refine MC.out.mono ?_; rintro e w' ⟨rfl, rfl⟩
         go_wp2_with fail
         refine DV.out.mono ?_; rintro e w1 ⟨rfl, he⟩
         go_wp2_with fail
         refine (NG.out _).mono ?_; rintro e w' ⟨rfl, rfl⟩; unfold Res
         go_wp2_with fail
         go_ret2
         exact ⟨congrArg Res Z.out.symm, he⟩)
      | (have s := s1 rfl; clear s1 s2
         by_cases hq : 9223372036854775807 < Q
         · have dq := dlt_t hq
           rw [fit_out (.inr hq)] at s
           have Z := Lib.hid s; clear s
           go_enter Tryd.func22, Tryd.ntmps22
           go_wp2_with fail
           refine MA.out.mono ?_; rintro e w' ⟨rfl, rfl⟩
           go_wp2_with fail
           refine MB.out.mono ?_; rintro e w' ⟨rfl, rfl⟩
           go_wp2_with fail
           refine ML.out.mono ?_; rintro e w' ⟨rfl, rfl⟩
           go_wp2_with fail
           refine MC.out.mono ?_; rintro e w' ⟨rfl, rfl⟩
           go_wp2_with fail
           refine DV.out.mono ?_; rintro e w1 ⟨rfl, he⟩
           go_wp2_with fail
           go_ret2
           exact ⟨res_of Z.out, he⟩
         · have dq := dlt_f (show Q ≤ 9223372036854775807 by omega)
           rw [fit_in (by omega) (by omega)] at s
           have Z := Lib.hid s; clear s
           go_enter Tryd.func22, Tryd.ntmps22
           go_wp2_with fail
           refine MA.out.mono ?_; rintro e w' ⟨rfl, rfl⟩
           go_wp2_with fail
           refine MB.out.mono ?_; rintro e w' ⟨rfl, rfl⟩
           go_wp2_with fail
           refine ML.out.mono ?_; rintro e w' ⟨rfl, rfl⟩
           go_wp2_with fail
           refine MC.out.mono ?_; rintro e w' ⟨rfl, rfl⟩
           go_wp2_with fail
           refine DV.out.mono ?_; rintro e w1 ⟨rfl, he⟩
           go_wp2_with fail
           go_ret2
           exact ⟨res_of Z.out, he⟩)
/-- additive/num.Mul: the exact product, or ErrOverflow. -/
theorem num_Mul (a b : Int) (a0 : -9223372036854775808 ≤ a) (a1 : a ≤ 9223372036854775807) (b0 : -9223372036854775808 ≤ b) (b1 : b ≤ 9223372036854775807) (w : World) :
    Calls Tryd.prog 14 #[.int .i64 a, .int .i64 b] w fun e w' => e = Res (quo (a * b) 1) ∧ Ext w w' := by
  have c := Lib.hid (num_MulDiv a b 1 a0 a1 b0 b1 (by omega) (by omega) w)
  go_enter Tryd.func14, Tryd.ntmps14
  go_wp2_with fail
  refine c.out.mono ?_; rintro e w' ⟨rfl, he⟩; unfold Res
  go_wp2_with fail
  go_ret2
  exact ⟨rfl, he⟩
end Go.Proofs.YtflalomgifeaaaaDoor
