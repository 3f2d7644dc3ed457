/-
  Contracts of num.Clamp and num.Floor, and of the document's answers to them.
-/
import Derived.Test.YtboffcpiiaknbaaChecked
import Derived.Test.YtboffcpiiaknbaaVecM
import Derived.WalkKit
import Derived.WalkLawsBesides
import Derived.ProofKit
import Derived.Lib.Hide
import Derived.Deep.QuietTactic
import Derived.BigQuiet
namespace Go.Proofs.Ytboffcpiiaknbaa
open Go.RowKit
/-- additive/num.Clamp -/
theorem num_Clamp (n lo hi : Int) (w : World) :
    Calls Try.prog 35 #[.int .i64 n, .int .i64 lo, .int .i64 hi] w fun e w' => e = .returned (.int .i64 (max lo (min n hi))) ∧ w = w' := by
  go_enter Try.func35, Try.ntmps35
  go_wp2
  all_goals
    go_ret
    exact ⟨ret1 (by omega), rfl⟩
theorem ref_Clamp (n lo hi : Int) (w : World) :
    Calls Try.prog 36 #[.int .i64 n, .int .i64 lo, .int .i64 hi] w fun e w' => e = .returned (.int .i64 (max lo (min n hi))) ∧ w = w' := by
  go_enter Try.func36, Try.ntmps36
  go_wp2
  all_goals
    go_ret
    exact ⟨ret1 (by omega), rfl⟩
theorem num_divide (a b q r : Int) (a0 : -9223372036854775808 ≤ a) (a1 : a ≤ 9223372036854775807) (b0 : -9223372036854775808 ≤ b) (b1 : b ≤ 9223372036854775807)
    (hb : b ≠ 0) (hov : ¬ (a = -9223372036854775808 ∧ b = -1)) (h : a = b * q + r) (hr : (0 ≤ r ∧ r < b) ∨ (b < r ∧ r ≤ 0)) (w : World) :
    Calls Try.prog 40 #[.int .i64 a, .int .i64 b] w fun e w' => e = .returned (.tuple #[.int .i64 q, .int .i64 r, .int .i64 0]) ∧ Ext w w' := by
  obtain ⟨p1, p2, p3, p4, p5⟩ := tdiv_parts a b hb
  obtain ⟨s1, s2⟩ := tdiv_size a b hb a0 a1 hov
  obtain ⟨t, ht⟩ : ∃ t, a.tdiv b = t := ⟨_, rfl⟩
  obtain ⟨m, hm⟩ : ∃ m, a.tmod b = m := ⟨_, rfl⟩
  rw [ht] at p1 s1 s2
  rw [hm] at p1 p2 p3 p4 p5
  have key := fl_go h hr p1 p4 p5
  have t1 : q = t - 1 → -9223372036854775808 ≤ t - 1 := fun e => by
    have hf := fl_of h hr
    have := fl_range a b a0 a1 hb hov
    omega
  have hz : (b == 0) = false := beq_f hb
  have hg : a ≠ -9223372036854775808 ∧ (a == -9223372036854775808) = false ∨ a = -9223372036854775808 ∧ (b == -1) = false := by
    by_cases e : a = -9223372036854775808
    · exact .inr ⟨e, beq_f fun e2 => hov ⟨e, e2⟩⟩
    · exact .inl ⟨e, beq_f e⟩
  clear hov h p1
  have fin : ∀ (x y : Int) (n : Nat), x = q → y = r → (Ending.returned (.tuple #[.int .i64 x, .int .i64 y, .int .i64 0]) = .returned (.tuple #[.int .i64 q, .int .i64 r, .int .i64 0]) ∧ Ext w (w.drewN n)) := fun x y n hx hy => ⟨ret3 hx hy rfl, (Ext.refl _).drewN n⟩
  have Fin := Lib.hid fin; clear fin
  rcases hg with ⟨-, hg⟩ | ⟨rfl, hg⟩
  all_goals
    rcases key with ⟨k1, k2, k3⟩ | ⟨k1, k2, k3, k4⟩ | ⟨k1, k2, k3, k4⟩
    · have K2 := Lib.hid k2; have K3 := Lib.hid k3; clear k2 k3 t1
      subst k1
      go_enter Try.func40, Try.ntmps40
      go_wp2
      go_quiet (fail)
      go_wp2
      go_ret3
      exact Fin.out _ _ _ K2.out.symm K3.out.symm
    · have K3 := Lib.hid k3; have K4 := Lib.hid k4; clear k3 k4 t1
      have hm0 : (m != 0) = true := bne_t k1
      go_enter Try.func40, Try.ntmps40
      go_wp2
      go_quiet (fail)
      go_wp2
      go_ret3
      exact Fin.out _ _ _ K3.out.symm K4.out.symm
    · have t2 := t1 k3
      have m2 : -9223372036854775808 ≤ m + b ∧ m + b ≤ 9223372036854775807 := by omega
      have K3 := Lib.hid k3; have K4 := Lib.hid k4; clear k3 k4 t1
      have hm0 : (m != 0) = true := bne_t k1
      go_enter Try.func40, Try.ntmps40
      go_wp2
      go_quiet (fail)
      go_wp2
      go_ret3
      exact Fin.out _ _ _ K3.out.symm K4.out.symm

theorem num_divide_zero (a : Int) (w : World) :
    Calls Try.prog 40 #[.int .i64 a, .int .i64 0] w fun e w' => e = .returned (.tuple #[.int .i64 0, .int .i64 0, .int .i64 4]) ∧ w = w' := by
  go_enter Try.func40, Try.ntmps40
  go_wp2
  go_ret3
  exact ⟨rfl, rfl⟩
theorem num_divide_over (w : World) :
    Calls Try.prog 40 #[.int .i64 (-9223372036854775808), .int .i64 (-1)] w fun e w' => e = .returned (.tuple #[.int .i64 0, .int .i64 0, .int .i64 3]) ∧ w = w' := by
  go_enter Try.func40, Try.ntmps40
  go_wp2
  go_ret3
  exact ⟨rfl, rfl⟩
theorem quo_zero (n : Int) : quo n 0 = (0, 4) := rfl
theorem quo_over : quo (-9223372036854775808) (-1) = (0, 3) := by decide
theorem quo_of {a b q r : Int} (a0 : -9223372036854775808 ≤ a) (a1 : a ≤ 9223372036854775807) (hb : b ≠ 0) (hov : ¬ (a = -9223372036854775808 ∧ b = -1)) (h : a = b * q + r) (hr : (0 ≤ r ∧ r < b) ∨ (b < r ∧ r ≤ 0)) : quo a b = (q, 0) := by
  have := fl_range a b a0 a1 hb hov
  have e := fl_of h hr
  unfold quo; rw [if_neg hb, fit_in this.1 this.2, e]
/-- additive/num.Floor: the floor of the quotient, or the error number. -/
theorem num_Floor (a b : Int) (a0 : -9223372036854775808 ≤ a) (a1 : a ≤ 9223372036854775807) (b0 : -9223372036854775808 ≤ b) (b1 : b ≤ 9223372036854775807) (w : World) :
    Calls Try.prog 32 #[.int .i64 a, .int .i64 b] w fun e w' => e = Res (quo a b) ∧ Ext w w' := by
  by_cases hb : b = 0
  · subst hb
    go_enter Try.func32, Try.ntmps32
    go_wp2_with (go_at_call 40; refine (num_divide_zero _ _).mono ?_; rintro e w' ⟨rfl, rfl⟩)
    go_ret2
    exact ⟨res_of (quo_zero _), Ext.refl _⟩
  by_cases hov : a = -9223372036854775808 ∧ b = -1
  · obtain ⟨rfl, rfl⟩ := hov
    go_enter Try.func32, Try.ntmps32
    go_wp2_with (go_at_call 40; refine (num_divide_over _).mono ?_; rintro e w' ⟨rfl, rfl⟩)
    go_ret2
    exact ⟨res_of quo_over, Ext.refl _⟩
  obtain ⟨q, r, h, hr⟩ := exists_fl a b hb
  have hq := Lib.hid (quo_of a0 a1 hb hov h hr)
  have c := Lib.hid (num_divide a b q r a0 a1 b0 b1 hb hov h hr w)
  clear h hr hov hb
  go_enter Try.func32, Try.ntmps32
  go_wp2_with (go_at_call 40; refine c.out.mono ?_; rintro e w' ⟨rfl, he⟩)
  go_ret2
  exact ⟨res_of hq.out, he⟩
theorem min_tdiv {b t : Int} (h : (-9223372036854775808 : Int).tdiv b = t) (h0 : -9223372036854775808 ≤ t) (h1 : t ≤ 9223372036854775807) : wrap64 (-Int.tdiv 9223372036854775808 b) = t := by
  rw [show (-9223372036854775808 : Int) = -(9223372036854775808) from rfl, Int.neg_tdiv] at h
  rw [h]; exact IntWalk.wrap64_in _ ⟨h0, h1⟩
theorem min_tmod {b m : Int} (h : (-9223372036854775808 : Int).tmod b = m) : -(9223372036854775808 % b) = m := by
  rw [show (-9223372036854775808 : Int) = -(9223372036854775808) from rfl, Int.neg_tmod, Int.tmod_eq_emod_of_nonneg (by omega)] at h
  exact h
/-- additive/additiveref01.Floor -/
theorem ref_Floor (a b : Int) (a0 : -9223372036854775808 ≤ a) (a1 : a ≤ 9223372036854775807) (b0 : -9223372036854775808 ≤ b) (b1 : b ≤ 9223372036854775807) (w : World) :
    Calls Try.prog 33 #[.int .i64 a, .int .i64 b] w fun e w' => e = Res (quo a b) ∧ w = w' := by
  by_cases hb : b = 0
  · subst hb
    go_enter Try.func33, Try.ntmps33
    go_wp2
    go_ret2
    exact ⟨res_of (quo_zero _), rfl⟩
  by_cases hov : a = -9223372036854775808 ∧ b = -1
  · obtain ⟨rfl, rfl⟩ := hov
    go_enter Try.func33, Try.ntmps33
    go_wp2
    go_ret2
    exact ⟨res_of quo_over, rfl⟩
  obtain ⟨q, r, h, hr⟩ := exists_fl a b hb
  have hq := quo_of a0 a1 hb hov h hr
  obtain ⟨p1, p2, p3, p4, p5⟩ := tdiv_parts a b hb
  obtain ⟨s1, s2⟩ := tdiv_size a b hb a0 a1 hov
  obtain ⟨t, ht⟩ : ∃ t, a.tdiv b = t := ⟨_, rfl⟩
  obtain ⟨m, hm⟩ : ∃ m, a.tmod b = m := ⟨_, rfl⟩
  rw [ht] at p1 s1 s2
  rw [hm] at p1 p2 p3 p4 p5
  have key := fl_go h hr p1 p4 p5
  have t1 : q = t - 1 → -9223372036854775808 ≤ t - 1 := fun e => by
    have hf := fl_of h hr
    have := fl_range a b a0 a1 hb hov
    omega
  have hz : (b == 0) = false := beq_f hb
  have hg : a ≠ -9223372036854775808 ∧ (a == -9223372036854775808) = false ∨ a = -9223372036854775808 ∧ (b == -1) = false := by
    by_cases e : a = -9223372036854775808
    · exact .inr ⟨e, beq_f fun e2 => hov ⟨e, e2⟩⟩
    · exact .inl ⟨e, beq_f e⟩
  have sg : m ≠ 0 → decide (a < 0) = decide (m < 0) := fun h0 => by
    by_cases x : a < 0
    · rw [dlt_t x, dlt_t (by omega)]
    · rw [dlt_f (by omega), dlt_f (by omega)]
  clear hov h p1
  have Hq := Lib.hid hq; clear hq
  rcases key with ⟨k1, k2, k3⟩ | ⟨k1, k2, k3, k4⟩ | ⟨k1, k2, k3, k4⟩
  · subst k1
    have e : quo a b = (t, 0) := by rw [Hq.out, k2]
    have E := Lib.hid e
    clear e k2 k3 t1 sg
    rcases hg with ⟨-, hg⟩ | ⟨ha, hg⟩
    all_goals
      first
      | (subst ha; exfalso; revert s; decide)
      | (try (subst ha; replace ht := min_tdiv ht s1 s2; replace hm := min_tmod hm)
         go_enter Try.func33, Try.ntmps33
         go_wp2
         go_ret2
         first
         | exact ⟨res_of E.out, rfl⟩
         | exact ⟨res_of (by rw [ht]; exact E.out), rfl⟩)
  · have e : quo a b = (t, 0) := by rw [Hq.out, k3]
    have E := Lib.hid e
    have hm0 : (m != 0) = true := bne_t k1
    have s := sg k1
    rw [k2] at s
    clear e k2 k3 k4 t1 sg
    rcases sign_cases b with ⟨c, d⟩ | ⟨c, d⟩ <;> rw [d] at s <;> rcases hg with ⟨-, hg⟩ | ⟨ha, hg⟩
    all_goals
      first
      | (subst ha; exfalso; revert s; decide)
      | (try (subst ha; replace ht := min_tdiv ht s1 s2; replace hm := min_tmod hm)
         go_enter Try.func33, Try.ntmps33
         go_wp2
         go_ret2
         first
         | exact ⟨res_of E.out, rfl⟩
         | exact ⟨res_of (by rw [ht]; exact E.out), rfl⟩)
  · have e : quo a b = (t - 1, 0) := by rw [Hq.out, k3]
    have E := Lib.hid e
    have t2 := t1 k3
    have hm0 : (m != 0) = true := bne_t k1
    have s := sg k1
    rw [k2] at s
    clear e k2 k3 k4 t1 sg
    rcases sign_cases b with ⟨c, d⟩ | ⟨c, d⟩ <;> rw [d] at s <;> rcases hg with ⟨-, hg⟩ | ⟨ha, hg⟩
    all_goals
      first
      | (subst ha; exfalso; revert s; decide)
      | (try (subst ha; replace ht := min_tdiv ht s1 s2; replace hm := min_tmod hm)
         go_enter Try.func33, Try.ntmps33
         go_wp2
         go_ret2
         first
         | exact ⟨res_of E.out, rfl⟩
         | exact ⟨res_of (by rw [ht]; exact E.out), rfl⟩)
/-- Floor by a positive number. -/
theorem quo_pos {a b : Int} (a0 : -9223372036854775808 ≤ a) (a1 : a ≤ 9223372036854775807) (hb : 0 < b) : quo a b = (a / b, 0) := by
  have h := fl_range a b a0 a1 (by omega) (by omega)
  have e : fl a b = a / b := if_pos hb
  rw [e] at h
  unfold quo; rw [if_neg (by omega), e, fit_in h.1 h.2]
theorem num_FloorP (a b : Int) (a0 : -9223372036854775808 ≤ a) (a1 : a ≤ 9223372036854775807) (b0 : 0 < b) (b1 : b ≤ 9223372036854775807) (w : World) :
    Calls Try.prog 32 #[.int .i64 a, .int .i64 b] w fun e w' => e = .returned (.tuple #[.int .i64 (a / b), .int .i64 0]) ∧ Ext w w' := by
  have h := num_Floor a b a0 a1 (by omega) b1 w
  rw [quo_pos a0 a1 b0] at h
  exact h
theorem ref_FloorP (a b : Int) (a0 : -9223372036854775808 ≤ a) (a1 : a ≤ 9223372036854775807) (b0 : 0 < b) (b1 : b ≤ 9223372036854775807) (w : World) :
    Calls Try.prog 33 #[.int .i64 a, .int .i64 b] w fun e w' => e = .returned (.tuple #[.int .i64 (a / b), .int .i64 0]) ∧ w = w' := by
  have h := ref_Floor a b a0 a1 (by omega) b1 w
  rw [quo_pos a0 a1 b0] at h
  exact h
end Go.Proofs.Ytboffcpiiaknbaa
