/-
  Contracts of package guard and of the document's own answers: which guards are valid.
-/
import Derived.Test.YtnmjikaojoaaaaaClp
import Derived.Test.YtnmjikaojoaaaaaExt
import Derived.Lib.MinMax
import Derived.IntWalk
import Derived.Deep.Cut
namespace Go.Proofs.Ytnmjikaojoaaaaa
open Go.RowKit
/-- The guard's numbers are in range. -/
def GVal (lo hi wa ri ba bs cn il qu fa : Int) : Prop := lo ≤ hi ∧ (-1073741824 ≤ lo ∧ lo ≤ 1073741824) ∧ (-1073741824 ≤ hi ∧ hi ≤ 1073741824) ∧ (-1073741824 ≤ bs ∧ bs ≤ 1073741824) ∧ (1 ≤ wa ∧ wa ≤ 1048576) ∧ (0 ≤ cn ∧ cn ≤ wa) ∧ (1 ≤ ri ∧ ri ≤ 400000) ∧ (0 ≤ ba ∧ ba ≤ 400000) ∧ (1 ≤ il ∧ il ≤ 1048576) ∧ (0 ≤ qu ∧ qu ≤ il) ∧ (0 ≤ fa ∧ fa ≤ 4)
instance (lo hi wa ri ba bs cn il qu fa : Int) : Decidable (GVal lo hi wa ri ba bs cn il qu fa) := inferInstanceAs (Decidable (_ ∧ _))
theorem guard_within (n a b : Int) (w : World) : Calls Try.prog 55 #[.int .i64 n, .int .i64 a, .int .i64 b] w fun e w' => e = .returned (.bool (decide (a ≤ n ∧ n ≤ b))) ∧ w = w' := by
  go_enter Try.func55, Try.ntmps55
  go_wp2_with fail
  all_goals
    go_ret
    exact ⟨ret_b (by rw [Bool.eq_iff_iff]; simp; try omega), rfl⟩
theorem ref_in (n a b : Int) (w : World) : Calls Try.prog 56 #[.int .i64 n, .int .i64 a, .int .i64 b] w fun e w' => e = .returned (.bool (decide (a ≤ n ∧ n ≤ b))) ∧ w = w' := by
  go_enter Try.func56, Try.ntmps56
  go_wp2_with fail
  all_goals
    go_ret
    exact ⟨ret_b (by rw [Bool.eq_iff_iff]; simp; try omega), rfl⟩
theorem ref_clamp (n a b : Int) (hab : a ≤ b) (w : World) : Calls Try.prog 54 #[.int .i64 n, .int .i64 a, .int .i64 b] w fun e w' => e = .returned (.int .i64 (max a (min n b))) ∧ w = w' := by
  go_enter Try.func54, Try.ntmps54
  go_wp2_with fail
  all_goals
    go_ret
    exact ⟨ret1 (by omega), rfl⟩
theorem gval_and (lo hi wa ri ba bs cn il qu fa : Int) : decide (GVal lo hi wa ri ba bs cn il qu fa) = ((decide (lo ≤ hi) && decide (-1073741824 ≤ lo ∧ lo ≤ 1073741824) && decide (-1073741824 ≤ hi ∧ hi ≤ 1073741824) && decide (-1073741824 ≤ bs ∧ bs ≤ 1073741824)) && (decide (1 ≤ wa ∧ wa ≤ 1048576) && decide (0 ≤ cn ∧ cn ≤ wa) && decide (1 ≤ ri ∧ ri ≤ 400000) && decide (0 ≤ ba ∧ ba ≤ 400000)) && decide (1 ≤ il ∧ il ≤ 1048576) && decide (0 ≤ qu ∧ qu ≤ il) && decide (0 ≤ fa ∧ fa ≤ 4)) := by
  rw [Bool.eq_iff_iff]
  simp only [Bool.and_eq_true, decide_eq_true_eq]
  unfold GVal
  simp only [and_assoc]
set_option maxHeartbeats 4000000 in
theorem ref_GValid (lo hi wa ri ba bs cn il qu fa : Int) (dr : Bool) (b : Bool) (hb : b = decide (GVal lo hi wa ri ba bs cn il qu fa)) (w : World) : Calls Try.prog 28 #[.agg #[.int .i64 lo, .int .i64 hi, .int .i64 wa, .int .i64 ri, .int .i64 ba, .int .i64 bs, .int .i64 cn, .int .i64 il, .int .i64 qu, .int .i64 fa, .bool dr]] w fun e w' => e = .returned (.bool b) ∧ Ext w w' := by
  obtain ⟨t0, ht0⟩ : ∃ t, t = decide (lo ≤ hi) := ⟨_, rfl⟩
  obtain ⟨t1, ht1⟩ : ∃ t, t = decide (-1073741824 ≤ lo ∧ lo ≤ 1073741824) := ⟨_, rfl⟩
  obtain ⟨t2, ht2⟩ : ∃ t, t = decide (-1073741824 ≤ hi ∧ hi ≤ 1073741824) := ⟨_, rfl⟩
  obtain ⟨t3, ht3⟩ : ∃ t, t = decide (-1073741824 ≤ bs ∧ bs ≤ 1073741824) := ⟨_, rfl⟩
  obtain ⟨t4, ht4⟩ : ∃ t, t = decide (1 ≤ wa ∧ wa ≤ 1048576) := ⟨_, rfl⟩
  obtain ⟨t5, ht5⟩ : ∃ t, t = decide (0 ≤ cn ∧ cn ≤ wa) := ⟨_, rfl⟩
  obtain ⟨t6, ht6⟩ : ∃ t, t = decide (1 ≤ ri ∧ ri ≤ 400000) := ⟨_, rfl⟩
  obtain ⟨t7, ht7⟩ : ∃ t, t = decide (0 ≤ ba ∧ ba ≤ 400000) := ⟨_, rfl⟩
  obtain ⟨t8, ht8⟩ : ∃ t, t = decide (1 ≤ il ∧ il ≤ 1048576) := ⟨_, rfl⟩
  obtain ⟨t9, ht9⟩ : ∃ t, t = decide (0 ≤ qu ∧ qu ≤ il) := ⟨_, rfl⟩
  obtain ⟨t10, ht10⟩ : ∃ t, t = decide (0 ≤ fa ∧ fa ≤ 4) := ⟨_, rfl⟩
  rw [gval_and] at hb
  rw [← ht0, ← ht1, ← ht2, ← ht3, ← ht4, ← ht5, ← ht6, ← ht7, ← ht8, ← ht9, ← ht10] at hb
  have c1 := Lib.hid (fun w => ref_in lo (-1073741824) 1073741824 w)
  rw [← ht1] at c1
  have c2 := Lib.hid (fun w => ref_in hi (-1073741824) 1073741824 w)
  rw [← ht2] at c2
  have c3 := Lib.hid (fun w => ref_in bs (-1073741824) 1073741824 w)
  rw [← ht3] at c3
  have c4 := Lib.hid (fun w => ref_in wa (1) 1048576 w)
  rw [← ht4] at c4
  have c5 := Lib.hid (fun w => ref_in cn (0) wa w)
  rw [← ht5] at c5
  have c6 := Lib.hid (fun w => ref_in ri (1) 400000 w)
  rw [← ht6] at c6
  have c7 := Lib.hid (fun w => ref_in ba (0) 400000 w)
  rw [← ht7] at c7
  have c8 := Lib.hid (fun w => ref_in il (1) 1048576 w)
  rw [← ht8] at c8
  have c9 := Lib.hid (fun w => ref_in qu (0) il w)
  rw [← ht9] at c9
  have c10 := Lib.hid (fun w => ref_in fa (0) 4 w)
  rw [← ht10] at c10
  replace ht0 := ht0.symm
  have HB := Lib.hid hb
  clear hb ht1 ht2 ht3 ht4 ht5 ht6 ht7 ht8 ht9 ht10
  replace ht0 : decide (hi < lo) = !t0 := by rw [← ht0, Bool.eq_iff_iff]; simp
  cases t0
  · simp only [Bool.not_false] at ht0
    go_enter Try.func28, Try.ntmps28
    go_wp2_with fail
    go_ret
    exact ⟨ret_b (by rw [HB.out]; simp), (Ext.refl _).alloc _⟩
  · simp only [Bool.not_true] at ht0
    go_enter Try.func28, Try.ntmps28
    go_wp2_with fail
    cases t1
    · refine (c1.out _).mono ?_; rintro e w' ⟨rfl, rfl⟩
      go_wp2_with fail
      go_ret
      exact ⟨ret_b (by rw [HB.out]; simp), (Ext.refl _).alloc _⟩
    · refine (c1.out _).mono ?_; rintro e w' ⟨rfl, rfl⟩
      go_wp2_with fail
      cases t2
      · refine (c2.out _).mono ?_; rintro e w' ⟨rfl, rfl⟩
        go_wp2_with fail
        go_ret
        exact ⟨ret_b (by rw [HB.out]; simp), (Ext.refl _).alloc _⟩
      · refine (c2.out _).mono ?_; rintro e w' ⟨rfl, rfl⟩
        go_wp2_with fail
        cases t3
        · refine (c3.out _).mono ?_; rintro e w' ⟨rfl, rfl⟩
          go_wp2_with fail
          go_ret
          exact ⟨ret_b (by rw [HB.out]; simp), (Ext.refl _).alloc _⟩
        · refine (c3.out _).mono ?_; rintro e w' ⟨rfl, rfl⟩
          go_wp2_with fail
          cases t4
          · refine (c4.out _).mono ?_; rintro e w' ⟨rfl, rfl⟩
            go_wp2_with fail
            go_ret
            exact ⟨ret_b (by rw [HB.out]; simp), (Ext.refl _).alloc _⟩
          · refine (c4.out _).mono ?_; rintro e w' ⟨rfl, rfl⟩
            go_wp2_with fail
            cases t8
            · refine (c8.out _).mono ?_; rintro e w' ⟨rfl, rfl⟩
              go_wp2_with fail
              go_ret
              exact ⟨ret_b (by rw [HB.out]; simp), (Ext.refl _).alloc _⟩
            · refine (c8.out _).mono ?_; rintro e w' ⟨rfl, rfl⟩
              go_wp2_with fail
              cases t6
              · refine (c6.out _).mono ?_; rintro e w' ⟨rfl, rfl⟩
                go_wp2_with fail
                go_ret
                exact ⟨ret_b (by rw [HB.out]; simp), (Ext.refl _).alloc _⟩
              · refine (c6.out _).mono ?_; rintro e w' ⟨rfl, rfl⟩
                go_wp2_with fail
                cases t7
                · refine (c7.out _).mono ?_; rintro e w' ⟨rfl, rfl⟩
                  go_wp2_with fail
                  go_ret
                  exact ⟨ret_b (by rw [HB.out]; simp), (Ext.refl _).alloc _⟩
                · refine (c7.out _).mono ?_; rintro e w' ⟨rfl, rfl⟩
                  go_wp2_with fail
                  cases t5
                  · refine (c5.out _).mono ?_; rintro e w' ⟨rfl, rfl⟩
                    go_wp2_with fail
                    go_ret
                    exact ⟨ret_b (by rw [HB.out]; simp), (Ext.refl _).alloc _⟩
                  · refine (c5.out _).mono ?_; rintro e w' ⟨rfl, rfl⟩
                    go_wp2_with fail
                    cases t9
                    · refine (c9.out _).mono ?_; rintro e w' ⟨rfl, rfl⟩
                      go_wp2_with fail
                      go_ret
                      exact ⟨ret_b (by rw [HB.out]; simp), (Ext.refl _).alloc _⟩
                    · refine (c9.out _).mono ?_; rintro e w' ⟨rfl, rfl⟩
                      go_wp2_with fail
                      cases t10
                      · refine (c10.out _).mono ?_; rintro e w' ⟨rfl, rfl⟩
                        go_wp2_with fail
                        go_ret
                        exact ⟨ret_b (by rw [HB.out]; simp), (Ext.refl _).alloc _⟩
                      · refine (c10.out _).mono ?_; rintro e w' ⟨rfl, rfl⟩
                        go_wp2_with fail
                        go_ret
                        exact ⟨ret_b (by rw [HB.out]; simp), (Ext.refl _).alloc _⟩
set_option maxHeartbeats 8000000 in
theorem guard_GValid (lo hi wa ri ba bs cn il qu fa : Int) (dr : Bool) (b : Bool) (hb : b = decide (GVal lo hi wa ri ba bs cn il qu fa)) (w : World) : Calls Try.prog 27 #[.agg #[.int .i64 lo, .int .i64 hi, .int .i64 wa, .int .i64 ri, .int .i64 ba, .int .i64 bs, .int .i64 cn, .int .i64 il, .int .i64 qu, .int .i64 fa, .bool dr]] w fun e w' => e = .returned (.bool b) ∧ Ext w w' := by
  obtain ⟨t0, ht0⟩ : ∃ t, t = decide (lo ≤ hi) := ⟨_, rfl⟩
  obtain ⟨t1, ht1⟩ : ∃ t, t = decide (-1073741824 ≤ lo ∧ lo ≤ 1073741824) := ⟨_, rfl⟩
  obtain ⟨t2, ht2⟩ : ∃ t, t = decide (-1073741824 ≤ hi ∧ hi ≤ 1073741824) := ⟨_, rfl⟩
  obtain ⟨t3, ht3⟩ : ∃ t, t = decide (-1073741824 ≤ bs ∧ bs ≤ 1073741824) := ⟨_, rfl⟩
  obtain ⟨t4, ht4⟩ : ∃ t, t = decide (1 ≤ wa ∧ wa ≤ 1048576) := ⟨_, rfl⟩
  obtain ⟨t5, ht5⟩ : ∃ t, t = decide (0 ≤ cn ∧ cn ≤ wa) := ⟨_, rfl⟩
  obtain ⟨t6, ht6⟩ : ∃ t, t = decide (1 ≤ ri ∧ ri ≤ 400000) := ⟨_, rfl⟩
  obtain ⟨t7, ht7⟩ : ∃ t, t = decide (0 ≤ ba ∧ ba ≤ 400000) := ⟨_, rfl⟩
  obtain ⟨t8, ht8⟩ : ∃ t, t = decide (1 ≤ il ∧ il ≤ 1048576) := ⟨_, rfl⟩
  obtain ⟨t9, ht9⟩ : ∃ t, t = decide (0 ≤ qu ∧ qu ≤ il) := ⟨_, rfl⟩
  obtain ⟨t10, ht10⟩ : ∃ t, t = decide (0 ≤ fa ∧ fa ≤ 4) := ⟨_, rfl⟩
  rw [gval_and] at hb
  rw [← ht0, ← ht1, ← ht2, ← ht3, ← ht4, ← ht5, ← ht6, ← ht7, ← ht8, ← ht9, ← ht10] at hb
  have c1 := Lib.hid (fun w => guard_within lo (-1073741824) 1073741824 w)
  rw [← ht1] at c1
  have c2 := Lib.hid (fun w => guard_within hi (-1073741824) 1073741824 w)
  rw [← ht2] at c2
  have c3 := Lib.hid (fun w => guard_within bs (-1073741824) 1073741824 w)
  rw [← ht3] at c3
  have c4 := Lib.hid (fun w => guard_within wa (1) 1048576 w)
  rw [← ht4] at c4
  have c5 := Lib.hid (fun w => guard_within cn (0) wa w)
  rw [← ht5] at c5
  have c6 := Lib.hid (fun w => guard_within ri (1) 400000 w)
  rw [← ht6] at c6
  have c7 := Lib.hid (fun w => guard_within ba (0) 400000 w)
  rw [← ht7] at c7
  have c8 := Lib.hid (fun w => guard_within il (1) 1048576 w)
  rw [← ht8] at c8
  have c9 := Lib.hid (fun w => guard_within qu (0) il w)
  rw [← ht9] at c9
  have c10 := Lib.hid (fun w => guard_within fa (0) 4 w)
  rw [← ht10] at c10
  replace ht0 := ht0.symm
  have HB := Lib.hid hb
  clear hb ht1 ht2 ht3 ht4 ht5 ht6 ht7 ht8 ht9 ht10
  cases t0
  · go_enter Try.func27, Try.ntmps27
    go_wp2_with fail
    cases t4
    · refine (c4.out _).mono ?_; rintro e w' ⟨rfl, rfl⟩
      go_wp2_with fail
      go_ret
      exact ⟨ret_b (by rw [HB.out]; simp), (Ext.refl _).alloc _⟩
    · refine (c4.out _).mono ?_; rintro e w' ⟨rfl, rfl⟩
      go_wp2_with fail
      cases t5
      · refine (c5.out _).mono ?_; rintro e w' ⟨rfl, rfl⟩
        go_wp2_with fail
        go_ret
        exact ⟨ret_b (by rw [HB.out]; simp), (Ext.refl _).alloc _⟩
      · refine (c5.out _).mono ?_; rintro e w' ⟨rfl, rfl⟩
        go_wp2_with fail
        cases t6
        · refine (c6.out _).mono ?_; rintro e w' ⟨rfl, rfl⟩
          go_wp2_with fail
          go_ret
          exact ⟨ret_b (by rw [HB.out]; simp), (Ext.refl _).alloc _⟩
        · refine (c6.out _).mono ?_; rintro e w' ⟨rfl, rfl⟩
          go_wp2_with fail
          cases t7
          · refine (c7.out _).mono ?_; rintro e w' ⟨rfl, rfl⟩
            go_wp2_with fail
            go_ret
            exact ⟨ret_b (by rw [HB.out]; simp), (Ext.refl _).alloc _⟩
          · refine (c7.out _).mono ?_; rintro e w' ⟨rfl, rfl⟩
            go_wp2_with fail
            go_ret
            exact ⟨ret_b (by rw [HB.out]; simp), (Ext.refl _).alloc _⟩
  · go_enter Try.func27, Try.ntmps27
    go_wp2_with fail
    cases t1
    · refine (c1.out _).mono ?_; rintro e w' ⟨rfl, rfl⟩
      go_wp2_with fail
      cases t4
      · refine (c4.out _).mono ?_; rintro e w' ⟨rfl, rfl⟩
        go_wp2_with fail
        go_ret
        exact ⟨ret_b (by rw [HB.out]; simp), (Ext.refl _).alloc _⟩
      · refine (c4.out _).mono ?_; rintro e w' ⟨rfl, rfl⟩
        go_wp2_with fail
        cases t5
        · refine (c5.out _).mono ?_; rintro e w' ⟨rfl, rfl⟩
          go_wp2_with fail
          go_ret
          exact ⟨ret_b (by rw [HB.out]; simp), (Ext.refl _).alloc _⟩
        · refine (c5.out _).mono ?_; rintro e w' ⟨rfl, rfl⟩
          go_wp2_with fail
          cases t6
          · refine (c6.out _).mono ?_; rintro e w' ⟨rfl, rfl⟩
            go_wp2_with fail
            go_ret
            exact ⟨ret_b (by rw [HB.out]; simp), (Ext.refl _).alloc _⟩
          · refine (c6.out _).mono ?_; rintro e w' ⟨rfl, rfl⟩
            go_wp2_with fail
            cases t7
            · refine (c7.out _).mono ?_; rintro e w' ⟨rfl, rfl⟩
              go_wp2_with fail
              go_ret
              exact ⟨ret_b (by rw [HB.out]; simp), (Ext.refl _).alloc _⟩
            · refine (c7.out _).mono ?_; rintro e w' ⟨rfl, rfl⟩
              go_wp2_with fail
              go_ret
              exact ⟨ret_b (by rw [HB.out]; simp), (Ext.refl _).alloc _⟩
    · refine (c1.out _).mono ?_; rintro e w' ⟨rfl, rfl⟩
      go_wp2_with fail
      cases t2
      · refine (c2.out _).mono ?_; rintro e w' ⟨rfl, rfl⟩
        go_wp2_with fail
        cases t4
        · refine (c4.out _).mono ?_; rintro e w' ⟨rfl, rfl⟩
          go_wp2_with fail
          go_ret
          exact ⟨ret_b (by rw [HB.out]; simp), (Ext.refl _).alloc _⟩
        · refine (c4.out _).mono ?_; rintro e w' ⟨rfl, rfl⟩
          go_wp2_with fail
          cases t5
          · refine (c5.out _).mono ?_; rintro e w' ⟨rfl, rfl⟩
            go_wp2_with fail
            go_ret
            exact ⟨ret_b (by rw [HB.out]; simp), (Ext.refl _).alloc _⟩
          · refine (c5.out _).mono ?_; rintro e w' ⟨rfl, rfl⟩
            go_wp2_with fail
            cases t6
            · refine (c6.out _).mono ?_; rintro e w' ⟨rfl, rfl⟩
              go_wp2_with fail
              go_ret
              exact ⟨ret_b (by rw [HB.out]; simp), (Ext.refl _).alloc _⟩
            · refine (c6.out _).mono ?_; rintro e w' ⟨rfl, rfl⟩
              go_wp2_with fail
              cases t7
              · refine (c7.out _).mono ?_; rintro e w' ⟨rfl, rfl⟩
                go_wp2_with fail
                go_ret
                exact ⟨ret_b (by rw [HB.out]; simp), (Ext.refl _).alloc _⟩
              · refine (c7.out _).mono ?_; rintro e w' ⟨rfl, rfl⟩
                go_wp2_with fail
                go_ret
                exact ⟨ret_b (by rw [HB.out]; simp), (Ext.refl _).alloc _⟩
      · refine (c2.out _).mono ?_; rintro e w' ⟨rfl, rfl⟩
        go_wp2_with fail
        cases t3
        · refine (c3.out _).mono ?_; rintro e w' ⟨rfl, rfl⟩
          go_wp2_with fail
          cases t4
          · refine (c4.out _).mono ?_; rintro e w' ⟨rfl, rfl⟩
            go_wp2_with fail
            go_ret
            exact ⟨ret_b (by rw [HB.out]; simp), (Ext.refl _).alloc _⟩
          · refine (c4.out _).mono ?_; rintro e w' ⟨rfl, rfl⟩
            go_wp2_with fail
            cases t5
            · refine (c5.out _).mono ?_; rintro e w' ⟨rfl, rfl⟩
              go_wp2_with fail
              go_ret
              exact ⟨ret_b (by rw [HB.out]; simp), (Ext.refl _).alloc _⟩
            · refine (c5.out _).mono ?_; rintro e w' ⟨rfl, rfl⟩
              go_wp2_with fail
              cases t6
              · refine (c6.out _).mono ?_; rintro e w' ⟨rfl, rfl⟩
                go_wp2_with fail
                go_ret
                exact ⟨ret_b (by rw [HB.out]; simp), (Ext.refl _).alloc _⟩
              · refine (c6.out _).mono ?_; rintro e w' ⟨rfl, rfl⟩
                go_wp2_with fail
                cases t7
                · refine (c7.out _).mono ?_; rintro e w' ⟨rfl, rfl⟩
                  go_wp2_with fail
                  go_ret
                  exact ⟨ret_b (by rw [HB.out]; simp), (Ext.refl _).alloc _⟩
                · refine (c7.out _).mono ?_; rintro e w' ⟨rfl, rfl⟩
                  go_wp2_with fail
                  go_ret
                  exact ⟨ret_b (by rw [HB.out]; simp), (Ext.refl _).alloc _⟩
        · refine (c3.out _).mono ?_; rintro e w' ⟨rfl, rfl⟩
          go_wp2_with fail
          cases t4
          · refine (c4.out _).mono ?_; rintro e w' ⟨rfl, rfl⟩
            go_wp2_with fail
            go_ret
            exact ⟨ret_b (by rw [HB.out]; simp), (Ext.refl _).alloc _⟩
          · refine (c4.out _).mono ?_; rintro e w' ⟨rfl, rfl⟩
            go_wp2_with fail
            cases t5
            · refine (c5.out _).mono ?_; rintro e w' ⟨rfl, rfl⟩
              go_wp2_with fail
              go_ret
              exact ⟨ret_b (by rw [HB.out]; simp), (Ext.refl _).alloc _⟩
            · refine (c5.out _).mono ?_; rintro e w' ⟨rfl, rfl⟩
              go_wp2_with fail
              cases t6
              · refine (c6.out _).mono ?_; rintro e w' ⟨rfl, rfl⟩
                go_wp2_with fail
                go_ret
                exact ⟨ret_b (by rw [HB.out]; simp), (Ext.refl _).alloc _⟩
              · refine (c6.out _).mono ?_; rintro e w' ⟨rfl, rfl⟩
                go_wp2_with fail
                cases t7
                · refine (c7.out _).mono ?_; rintro e w' ⟨rfl, rfl⟩
                  go_wp2_with fail
                  go_ret
                  exact ⟨ret_b (by rw [HB.out]; simp), (Ext.refl _).alloc _⟩
                · refine (c7.out _).mono ?_; rintro e w' ⟨rfl, rfl⟩
                  go_wp2_with fail
                  cases t8
                  · refine (c8.out _).mono ?_; rintro e w' ⟨rfl, rfl⟩
                    go_wp2_with fail
                    go_ret
                    exact ⟨ret_b (by rw [HB.out]; simp), (Ext.refl _).alloc _⟩
                  · refine (c8.out _).mono ?_; rintro e w' ⟨rfl, rfl⟩
                    go_wp2_with fail
                    cases t9
                    · refine (c9.out _).mono ?_; rintro e w' ⟨rfl, rfl⟩
                      go_wp2_with fail
                      go_ret
                      exact ⟨ret_b (by rw [HB.out]; simp), (Ext.refl _).alloc _⟩
                    · refine (c9.out _).mono ?_; rintro e w' ⟨rfl, rfl⟩
                      go_wp2_with fail
                      cases t10
                      · refine (c10.out _).mono ?_; rintro e w' ⟨rfl, rfl⟩
                        go_wp2_with fail
                        go_ret
                        exact ⟨ret_b (by rw [HB.out]; simp), (Ext.refl _).alloc _⟩
                      · refine (c10.out _).mono ?_; rintro e w' ⟨rfl, rfl⟩
                        go_wp2_with fail
                        go_ret
                        exact ⟨ret_b (by rw [HB.out]; simp), (Ext.refl _).alloc _⟩
end Go.Proofs.Ytnmjikaojoaaaaa

