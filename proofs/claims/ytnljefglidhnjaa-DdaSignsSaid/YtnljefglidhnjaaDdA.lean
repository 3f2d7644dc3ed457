/-
  Contracts of package dda and of the document's own answers: valid counts, the dominant one.
-/
import Derived.Test.YtnljefglidhnjaaArr4
namespace Go.Proofs.Ytnljefglidhnjaa
open Go.RowKit
def DVal (a b c d : Int) : Prop := (-16777216 ≤ a ∧ a ≤ 16777216 ∧ -16777216 ≤ b ∧ b ≤ 16777216 ∧ -16777216 ≤ c ∧ c ≤ 16777216 ∧ -16777216 ≤ d ∧ d ≤ 16777216) ∧ ¬ (a = 0 ∧ b = 0 ∧ c = 0 ∧ d = 0)
instance (a b c d : Int) : Decidable (DVal a b c d) := inferInstanceAs (Decidable (_ ∧ _))
/-- The size of the greatest count. -/
def dom (a b c d : Int) : Int := max (max (max a (-a)) (max b (-b))) (max (max c (-c)) (max d (-d)))
/-- What Dominant answers. -/
def DomIs (a b c d n : Int) : Prop := (DVal a b c d ∧ n = dom a b c d) ∨ (¬ DVal a b c d ∧ n = 0)
theorem domIs_ex (a b c d : Int) : ∃ n, DomIs a b c d n := by
  by_cases h : DVal a b c d
  · exact ⟨_, .inl ⟨h, rfl⟩⟩
  · exact ⟨_, .inr ⟨h, rfl⟩⟩
set_option maxHeartbeats 4000000 in
theorem dda_DValid (a b c d : Int) (t : Bool) (ht : t = decide (DVal a b c d)) (w : World) :
    Calls Try.prog 15 #[.agg #[.int .i64 a, .int .i64 b, .int .i64 c, .int .i64 d]] w fun e w' => e = .returned (.bool t) ∧ Ext w w' := by
  have HT := Lib.hid ht; clear ht
  obtain ⟨i0, i1, i2, i3⟩ := idx4 a b c d
  obtain ⟨z, hz⟩ : ∃ z, z = !decide (a = 0 ∧ b = 0 ∧ c = 0 ∧ d = 0) := ⟨_, rfl⟩
  have nq := fun w => neq_4 a b c d 0 0 0 0 w
  rw [← hz] at nq
  have HZ := Lib.hid hz
  clear hz
  go_enter Try.func15, Try.ntmps15
  go_wp2_with fail
  refine wp_loop_rounds 5 ?_
  all_goals try (rw [rounds_succ]; go_wp2_with fail)
  all_goals try (rw [rounds_succ]; go_wp2_with fail)
  all_goals try (rw [rounds_succ]; go_wp2_with fail)
  all_goals try (rw [rounds_succ]; go_wp2_with fail)
  all_goals try (rw [rounds_succ]; go_wp2_with fail)
  all_goals
    go_ret
    refine ⟨ret_b (Eq.symm ?_), by (repeat' (with_reducible first | refine Ext.drew ?_ | refine Ext.alloc ?_ _ | exact Ext.refl _))⟩
    first
    | (rw [HT.out]; exact decide_eq_false (by unfold DVal; omega))
    | (rw [HT.out, HZ.out, ← decide_not, decide_eq_decide]; unfold DVal; omega)
set_option maxHeartbeats 8000000 in
theorem ref_DValid (a b c d : Int) (t : Bool) (ht : t = decide (DVal a b c d)) (w : World) :
    Calls Try.prog 16 #[.agg #[.int .i64 a, .int .i64 b, .int .i64 c, .int .i64 d]] w fun e w' => e = .returned (.bool t) ∧ Ext w w' := by
  have HT := Lib.hid ht; clear ht
  go_enter Try.func16, Try.ntmps16
  go_wp2_with fail
  refine wp_loop_rounds 5 ?_
  all_goals try (rw [rounds_succ]; go_wp2_with fail)
  all_goals try (rw [rounds_succ]; go_wp2_with fail)
  all_goals try (rw [rounds_succ]; go_wp2_with fail)
  all_goals try (rw [rounds_succ]; go_wp2_with fail)
  all_goals try (rw [rounds_succ]; go_wp2_with fail)
  all_goals
    go_ret
    refine ⟨ret_b (Eq.symm ?_), by (repeat' (with_reducible first | refine Ext.drew ?_ | refine Ext.alloc ?_ _ | exact Ext.refl _))⟩
    rw [HT.out]
    first
    | exact decide_eq_false (by unfold DVal; omega)
    | (exact decide_eq_true (by unfold DVal; omega))
    | (rw [Bool.eq_iff_iff]; simp [DVal]; omega)
theorem ref_dsize (n : Int) (n0 : -16777216 ≤ n) (n1 : n ≤ 16777216) (w : World) : Calls Try.prog 32 #[.int .i64 n] w fun e w' => e = .returned (.int .i64 (max n (-n))) ∧ w = w' := by
  go_enter Try.func32, Try.ntmps32
  go_wp2_with fail
  go_ret
  exact ⟨rfl, rfl⟩
set_option maxHeartbeats 8000000 in
theorem dda_Dominant (a b c d : Int) (n : Int) (h : DomIs a b c d n) (w : World) :
    Calls Try.prog 17 #[.agg #[.int .i64 a, .int .i64 b, .int .i64 c, .int .i64 d]] w fun e w' => e = .returned (.int .i64 n) ∧ Ext w w' := by
  obtain ⟨i0, i1, i2, i3⟩ := idx4 a b c d
  rcases h with ⟨hv, hn⟩ | ⟨hv, rfl⟩
  · have c1 := Lib.hid fun w => dda_DValid a b c d true (by rw [decide_eq_true hv]) w
    have HN := Lib.hid hn
    obtain ⟨⟨a0, a1, b0, b1, g0, g1, d0, d1⟩, _⟩ := hv
    clear hn
    go_enter Try.func17, Try.ntmps17
    go_wp2_with fail
    refine (c1.out _).mono ?_; rintro e w1 ⟨rfl, x_w1⟩
    obtain ⟨k_w1, f_w1⟩ := bcell x_w1
    have s_w1 := x_w1.size; (try simp at s_w1)
    have z0_w1 : w.heap.size < w1.heap.size := by omega
    have X_w1 := Lib.hid (show Ext w w1 from Ext.trans (by (repeat' (with_reducible first | refine Ext.drew ?_ | refine Ext.drewN ?_ _ | refine Ext.alloc ?_ _ | exact Ext.refl _ | fail | (refine Ext.setCell ?_ ?_ _; rotate_left; (focus (simp; try omega)))))) x_w1)
    clear x_w1 s_w1
    go_wp2_with fail
    refine wp_loop_rounds 5 ?_
    rw [rounds_succ]; go_wp2_with fail
    rw [rounds_succ]; go_wp2_with fail
    rw [rounds_succ]; go_wp2_with fail
    rw [rounds_succ]; go_wp2_with fail
    rw [rounds_succ]; go_wp2_with fail
    go_ret
    refine ⟨ret1 ?_, by (repeat' (with_reducible first | refine Ext.drew ?_ | refine Ext.alloc ?_ _ | exact X_w1.out | exact Ext.refl _))⟩
    rw [HN.out]; unfold dom; omega
  · have c1 := Lib.hid fun w => dda_DValid a b c d false (by rw [decide_eq_false hv]) w
    clear hv
    go_enter Try.func17, Try.ntmps17
    go_wp2_with fail
    refine (c1.out _).mono ?_; rintro e w1 ⟨rfl, x_w1⟩
    obtain ⟨k_w1, f_w1⟩ := bcell x_w1
    have X_w1 := Lib.hid (show Ext w w1 from Ext.trans (by (repeat' (with_reducible first | refine Ext.drew ?_ | refine Ext.drewN ?_ _ | refine Ext.alloc ?_ _ | exact Ext.refl _ | fail | (refine Ext.setCell ?_ ?_ _; rotate_left; (focus (simp; try omega)))))) x_w1)
    clear x_w1
    go_wp2_with fail
    go_ret
    exact ⟨rfl, by (repeat' (with_reducible first | refine Ext.drew ?_ | refine Ext.drewN ?_ _ | refine Ext.alloc ?_ _ | exact Ext.refl _ | exact X_w1.out | (refine Ext.setCell ?_ ?_ _; rotate_left; (focus (simp; try omega)))))⟩
set_option maxHeartbeats 8000000 in
theorem ref_Dominant (a b c d : Int) (n : Int) (h : DomIs a b c d n) (w : World) :
    Calls Try.prog 18 #[.agg #[.int .i64 a, .int .i64 b, .int .i64 c, .int .i64 d]] w fun e w' => e = .returned (.int .i64 n) ∧ Ext w w' := by
  obtain ⟨i0, i1, i2, i3⟩ := idx4 a b c d
  rcases h with ⟨hv, hn⟩ | ⟨hv, rfl⟩
  · have c1 := Lib.hid fun w => ref_DValid a b c d true (by rw [decide_eq_true hv]) w
    have z0 := Lib.hid fun w => ref_dsize a (by unfold DVal at hv; omega) (by unfold DVal at hv; omega) w
    have z1 := Lib.hid fun w => ref_dsize b (by unfold DVal at hv; omega) (by unfold DVal at hv; omega) w
    have z2 := Lib.hid fun w => ref_dsize c (by unfold DVal at hv; omega) (by unfold DVal at hv; omega) w
    have z3 := Lib.hid fun w => ref_dsize d (by unfold DVal at hv; omega) (by unfold DVal at hv; omega) w
    have HN := Lib.hid hn
    obtain ⟨⟨a0, a1, b0, b1, g0, g1, d0, d1⟩, _⟩ := hv
    clear hn
    go_enter Try.func18, Try.ntmps18
    go_wp2_with fail
    refine (c1.out _).mono ?_; rintro e w1 ⟨rfl, x_w1⟩
    obtain ⟨k_w1, f_w1⟩ := bcell x_w1
    have s_w1 := x_w1.size; (try simp at s_w1)
    have z0_w1 : w.heap.size < w1.heap.size := by omega
    have X_w1 := Lib.hid (show Ext w w1 from Ext.trans (by (repeat' (with_reducible first | refine Ext.drew ?_ | refine Ext.drewN ?_ _ | refine Ext.alloc ?_ _ | exact Ext.refl _ | fail | (refine Ext.setCell ?_ ?_ _; rotate_left; (focus (simp; try omega)))))) x_w1)
    clear x_w1 s_w1
    go_wp2_with fail
    refine wp_loop_rounds 5 ?_
    rw [rounds_succ]; go_wp2_with fail
    refine (z0.out _).mono ?_; rintro e w' ⟨rfl, rfl⟩
    go_wp2_with fail
    rw [rounds_succ]; go_wp2_with fail
    refine (z1.out _).mono ?_; rintro e w' ⟨rfl, rfl⟩
    go_wp2_with fail
    rw [rounds_succ]; go_wp2_with fail
    refine (z2.out _).mono ?_; rintro e w' ⟨rfl, rfl⟩
    go_wp2_with fail
    rw [rounds_succ]; go_wp2_with fail
    refine (z3.out _).mono ?_; rintro e w' ⟨rfl, rfl⟩
    go_wp2_with fail
    rw [rounds_succ]; go_wp2_with fail
    go_ret
    refine ⟨ret1 ?_, by (repeat' (with_reducible first | refine Ext.drew ?_ | refine Ext.alloc ?_ _ | exact X_w1.out | exact Ext.refl _))⟩
    rw [HN.out]; unfold dom; omega
  · have c1 := Lib.hid fun w => ref_DValid a b c d false (by rw [decide_eq_false hv]) w
    clear hv
    go_enter Try.func18, Try.ntmps18
    go_wp2_with fail
    refine (c1.out _).mono ?_; rintro e w1 ⟨rfl, x_w1⟩
    obtain ⟨k_w1, f_w1⟩ := bcell x_w1
    have X_w1 := Lib.hid (show Ext w w1 from Ext.trans (by (repeat' (with_reducible first | refine Ext.drew ?_ | refine Ext.drewN ?_ _ | refine Ext.alloc ?_ _ | exact Ext.refl _ | fail | (refine Ext.setCell ?_ ?_ _; rotate_left; (focus (simp; try omega)))))) x_w1)
    clear x_w1
    go_wp2_with fail
    go_ret
    exact ⟨rfl, by (repeat' (with_reducible first | refine Ext.drew ?_ | refine Ext.drewN ?_ _ | refine Ext.alloc ?_ _ | exact Ext.refl _ | exact X_w1.out | (refine Ext.setCell ?_ ?_ _; rotate_left; (focus (simp; try omega)))))⟩
end Go.Proofs.Ytnljefglidhnjaa

