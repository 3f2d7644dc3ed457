/-
  The walk of the law ControlBounded: it answers true.
-/
import Derived.Test.YtnljefglidhnjaaCtC
namespace Go.Proofs.Ytnljefglidhnjaa
open Go.RowKit
set_option maxHeartbeats 2000000 in
theorem law_ControlBounded_no (T p i s u l : Int) (r : Int) (hc : ¬ CVal T p i s u l) (w : World) : Calls Try.prog 12 #[.agg #[.int .i64 T, .int .i64 p, .int .i64 i, .int .i64 s, .int .i64 u, .int .i64 l], .int .i64 r] w fun e w' => e = .returned (.bool true) ∧ Ext w w' := by
  have ka := Lib.hid law_awake
  have c1 := Lib.hid fun w => control_Step T p i s u l r u 0 (.inl ⟨fun e => hc e.1, rfl, rfl⟩) w
  have c2 := Lib.hid fun w => control_Valid T p i s u l false (by rw [decide_eq_false hc]) w
  have eq := fun w => eqs T p i s u l w
  clear hc
  go_enter Try.func12, Try.ntmps12
  go_wp2_with fail
  refine (c1.out _).mono ?_; rintro e w1 ⟨rfl, x_w1⟩
  obtain ⟨k_w1, f_w1⟩ := bcell x_w1
  have s_w1 := x_w1.size; (try simp at s_w1)
  have z0_w1 : w.heap.size < w1.heap.size := by omega
  have X_w1 := Lib.hid (show Ext w w1 from Ext.trans (by (repeat' (with_reducible first | refine Ext.drew ?_ | refine Ext.drewN ?_ _ | refine Ext.alloc ?_ _ | exact Ext.refl _ | fail | (refine Ext.setCell ?_ ?_ _; rotate_left; (focus (simp; try omega)))))) x_w1)
  clear x_w1 s_w1
  go_wp2_with fail
  refine (c2.out _).mono ?_; rintro e w2 ⟨rfl, x_w2⟩
  obtain ⟨k_w2, f_w2⟩ := bcell x_w2
  have s_w2 := x_w2.size; (try simp at s_w2)
  have z0_w2 : w.heap.size < w2.heap.size := by omega
  have z1_w2 : w1.heap.size < w2.heap.size := by omega
  have X_w2 := Lib.hid (show Ext w w2 from Ext.trans (by (repeat' (with_reducible first | refine Ext.drew ?_ | refine Ext.drewN ?_ _ | refine Ext.alloc ?_ _ | exact Ext.refl _ | exact X_w1.out | (refine Ext.setCell ?_ ?_ _; rotate_left; (focus (simp; try omega)))))) x_w2)
  clear x_w2 s_w2
  go_wp2_with fail
  refine (ka.out _).mono ?_; rintro e w3 ⟨rfl, x_w3⟩
  obtain ⟨k_w3, f_w3⟩ := bcell x_w3
  have X_w3 := Lib.hid (show Ext w w3 from Ext.trans (by (repeat' (with_reducible first | refine Ext.drew ?_ | refine Ext.drewN ?_ _ | refine Ext.alloc ?_ _ | exact Ext.refl _ | exact X_w2.out | exact X_w1.out | (refine Ext.setCell ?_ ?_ _; rotate_left; (focus (simp; try omega)))))) x_w3)
  clear x_w3
  go_wp2_with fail
  go_ret
  exact ⟨rfl, by (repeat' (with_reducible first | refine Ext.drew ?_ | refine Ext.drewN ?_ _ | refine Ext.alloc ?_ _ | exact Ext.refl _ | exact X_w3.out | exact X_w2.out | exact X_w1.out | (refine Ext.setCell ?_ ?_ _; rotate_left; (focus (simp; try omega)))))⟩
set_option maxHeartbeats 4000000 in
theorem law_ControlBounded_low (T p i s u l : Int) (r v d : Int) (h : StepIs T p i s u l r v d) (hc : CVal T p i s u l) (hr : r < -1073741824) (w : World) : Calls Try.prog 12 #[.agg #[.int .i64 T, .int .i64 p, .int .i64 i, .int .i64 s, .int .i64 u, .int .i64 l], .int .i64 r] w fun e w' => e = .returned (.bool true) ∧ Ext w w' := by
  have ka := Lib.hid law_awake
  obtain ⟨hv, k0, k1, k2⟩ := step_keeps h hc
  have c1 := Lib.hid fun w => control_Step T p i s u l r v d h w
  have c2 := Lib.hid fun w => control_Valid T p i s u l true (by rw [decide_eq_true hc]) w
  have c3 := Lib.hid fun w => control_Valid T p i s v l true (by rw [decide_eq_true hv]) w
  have nq := fun w => neqs T p i s u l w
  have d1 := dlt_f k0
  have d2 := dlt_f k1
  have t1 := dle_f hr
  clear hr
  by_cases hT : T = 0
  · have d3 := beq_t hT
    have d4 := bne_f (k2 hT)
    clear hT hc hv h k2
    go_enter Try.func12, Try.ntmps12
    go_wp2_with fail
    refine (c1.out _).mono ?_; rintro e w1 ⟨rfl, x_w1⟩
    obtain ⟨k_w1, f_w1⟩ := bcell x_w1
    have s_w1 := x_w1.size; (try simp at s_w1)
    have z0_w1 : w.heap.size < w1.heap.size := by omega
    have X_w1 := Lib.hid (show Ext w w1 from Ext.trans (by (repeat' (with_reducible first | refine Ext.drew ?_ | refine Ext.drewN ?_ _ | refine Ext.alloc ?_ _ | exact Ext.refl _ | fail | (refine Ext.setCell ?_ ?_ _; rotate_left; (focus (simp; try omega)))))) x_w1)
    clear x_w1 s_w1
    go_wp2_with fail
    refine (c2.out _).mono ?_; rintro e w2 ⟨rfl, x_w2⟩
    obtain ⟨k_w2, f_w2⟩ := bcell x_w2
    have s_w2 := x_w2.size; (try simp at s_w2)
    have z0_w2 : w.heap.size < w2.heap.size := by omega
    have z1_w2 : w1.heap.size < w2.heap.size := by omega
    have X_w2 := Lib.hid (show Ext w w2 from Ext.trans (by (repeat' (with_reducible first | refine Ext.drew ?_ | refine Ext.drewN ?_ _ | refine Ext.alloc ?_ _ | exact Ext.refl _ | exact X_w1.out | (refine Ext.setCell ?_ ?_ _; rotate_left; (focus (simp; try omega)))))) x_w2)
    clear x_w2 s_w2
    go_wp2_with fail
    refine (c3.out _).mono ?_; rintro e w3 ⟨rfl, x_w3⟩
    obtain ⟨k_w3, f_w3⟩ := bcell x_w3
    have s_w3 := x_w3.size; (try simp at s_w3)
    have z0_w3 : w.heap.size < w3.heap.size := by omega
    have z1_w3 : w1.heap.size < w3.heap.size := by omega
    have z2_w3 : w2.heap.size < w3.heap.size := by omega
    have X_w3 := Lib.hid (show Ext w w3 from Ext.trans (by (repeat' (with_reducible first | refine Ext.drew ?_ | refine Ext.drewN ?_ _ | refine Ext.alloc ?_ _ | exact Ext.refl _ | exact X_w2.out | exact X_w1.out | (refine Ext.setCell ?_ ?_ _; rotate_left; (focus (simp; try omega)))))) x_w3)
    clear x_w3 s_w3
    go_wp2_with fail
    refine (ka.out _).mono ?_; rintro e w4 ⟨rfl, x_w4⟩
    obtain ⟨k_w4, f_w4⟩ := bcell x_w4
    have X_w4 := Lib.hid (show Ext w w4 from Ext.trans (by (repeat' (with_reducible first | refine Ext.drew ?_ | refine Ext.drewN ?_ _ | refine Ext.alloc ?_ _ | exact Ext.refl _ | exact X_w3.out | exact X_w2.out | exact X_w1.out | (refine Ext.setCell ?_ ?_ _; rotate_left; (focus (simp; try omega)))))) x_w4)
    clear x_w4
    go_wp2_with fail
    go_ret
    exact ⟨rfl, by (repeat' (with_reducible first | refine Ext.drew ?_ | refine Ext.drewN ?_ _ | refine Ext.alloc ?_ _ | exact Ext.refl _ | exact X_w4.out | exact X_w3.out | exact X_w2.out | exact X_w1.out | (refine Ext.setCell ?_ ?_ _; rotate_left; (focus (simp; try omega)))))⟩
  · have d3 := beq_f hT
    clear hT hc hv h k2
    go_enter Try.func12, Try.ntmps12
    go_wp2_with fail
    refine (c1.out _).mono ?_; rintro e w1 ⟨rfl, x_w1⟩
    obtain ⟨k_w1, f_w1⟩ := bcell x_w1
    have s_w1 := x_w1.size; (try simp at s_w1)
    have z0_w1 : w.heap.size < w1.heap.size := by omega
    have X_w1 := Lib.hid (show Ext w w1 from Ext.trans (by (repeat' (with_reducible first | refine Ext.drew ?_ | refine Ext.drewN ?_ _ | refine Ext.alloc ?_ _ | exact Ext.refl _ | fail | (refine Ext.setCell ?_ ?_ _; rotate_left; (focus (simp; try omega)))))) x_w1)
    clear x_w1 s_w1
    go_wp2_with fail
    refine (c2.out _).mono ?_; rintro e w2 ⟨rfl, x_w2⟩
    obtain ⟨k_w2, f_w2⟩ := bcell x_w2
    have s_w2 := x_w2.size; (try simp at s_w2)
    have z0_w2 : w.heap.size < w2.heap.size := by omega
    have z1_w2 : w1.heap.size < w2.heap.size := by omega
    have X_w2 := Lib.hid (show Ext w w2 from Ext.trans (by (repeat' (with_reducible first | refine Ext.drew ?_ | refine Ext.drewN ?_ _ | refine Ext.alloc ?_ _ | exact Ext.refl _ | exact X_w1.out | (refine Ext.setCell ?_ ?_ _; rotate_left; (focus (simp; try omega)))))) x_w2)
    clear x_w2 s_w2
    go_wp2_with fail
    refine (c3.out _).mono ?_; rintro e w3 ⟨rfl, x_w3⟩
    obtain ⟨k_w3, f_w3⟩ := bcell x_w3
    have s_w3 := x_w3.size; (try simp at s_w3)
    have z0_w3 : w.heap.size < w3.heap.size := by omega
    have z1_w3 : w1.heap.size < w3.heap.size := by omega
    have z2_w3 : w2.heap.size < w3.heap.size := by omega
    have X_w3 := Lib.hid (show Ext w w3 from Ext.trans (by (repeat' (with_reducible first | refine Ext.drew ?_ | refine Ext.drewN ?_ _ | refine Ext.alloc ?_ _ | exact Ext.refl _ | exact X_w2.out | exact X_w1.out | (refine Ext.setCell ?_ ?_ _; rotate_left; (focus (simp; try omega)))))) x_w3)
    clear x_w3 s_w3
    go_wp2_with fail
    refine (ka.out _).mono ?_; rintro e w4 ⟨rfl, x_w4⟩
    obtain ⟨k_w4, f_w4⟩ := bcell x_w4
    have X_w4 := Lib.hid (show Ext w w4 from Ext.trans (by (repeat' (with_reducible first | refine Ext.drew ?_ | refine Ext.drewN ?_ _ | refine Ext.alloc ?_ _ | exact Ext.refl _ | exact X_w3.out | exact X_w2.out | exact X_w1.out | (refine Ext.setCell ?_ ?_ _; rotate_left; (focus (simp; try omega)))))) x_w4)
    clear x_w4
    go_wp2_with fail
    go_ret
    exact ⟨rfl, by (repeat' (with_reducible first | refine Ext.drew ?_ | refine Ext.drewN ?_ _ | refine Ext.alloc ?_ _ | exact Ext.refl _ | exact X_w4.out | exact X_w3.out | exact X_w2.out | exact X_w1.out | (refine Ext.setCell ?_ ?_ _; rotate_left; (focus (simp; try omega)))))⟩
set_option maxHeartbeats 4000000 in
theorem law_ControlBounded_high (T p i s u l : Int) (r v d : Int) (h : StepIs T p i s u l r v d) (hc : CVal T p i s u l) (hr : 1073741824 < r) (w : World) : Calls Try.prog 12 #[.agg #[.int .i64 T, .int .i64 p, .int .i64 i, .int .i64 s, .int .i64 u, .int .i64 l], .int .i64 r] w fun e w' => e = .returned (.bool true) ∧ Ext w w' := by
  have ka := Lib.hid law_awake
  obtain ⟨hv, k0, k1, k2⟩ := step_keeps h hc
  have c1 := Lib.hid fun w => control_Step T p i s u l r v d h w
  have c2 := Lib.hid fun w => control_Valid T p i s u l true (by rw [decide_eq_true hc]) w
  have c3 := Lib.hid fun w => control_Valid T p i s v l true (by rw [decide_eq_true hv]) w
  have nq := fun w => neqs T p i s u l w
  have d1 := dlt_f k0
  have d2 := dlt_f k1
  have t1 := dle_t (show (-1073741824 : Int) ≤ r by omega)
  have t2 := dle_f hr
  clear hr
  by_cases hT : T = 0
  · have d3 := beq_t hT
    have d4 := bne_f (k2 hT)
    clear hT hc hv h k2
    go_enter Try.func12, Try.ntmps12
    go_wp2_with fail
    refine (c1.out _).mono ?_; rintro e w1 ⟨rfl, x_w1⟩
    obtain ⟨k_w1, f_w1⟩ := bcell x_w1
    have s_w1 := x_w1.size; (try simp at s_w1)
    have z0_w1 : w.heap.size < w1.heap.size := by omega
    have X_w1 := Lib.hid (show Ext w w1 from Ext.trans (by (repeat' (with_reducible first | refine Ext.drew ?_ | refine Ext.drewN ?_ _ | refine Ext.alloc ?_ _ | exact Ext.refl _ | fail | (refine Ext.setCell ?_ ?_ _; rotate_left; (focus (simp; try omega)))))) x_w1)
    clear x_w1 s_w1
    go_wp2_with fail
    refine (c2.out _).mono ?_; rintro e w2 ⟨rfl, x_w2⟩
    obtain ⟨k_w2, f_w2⟩ := bcell x_w2
    have s_w2 := x_w2.size; (try simp at s_w2)
    have z0_w2 : w.heap.size < w2.heap.size := by omega
    have z1_w2 : w1.heap.size < w2.heap.size := by omega
    have X_w2 := Lib.hid (show Ext w w2 from Ext.trans (by (repeat' (with_reducible first | refine Ext.drew ?_ | refine Ext.drewN ?_ _ | refine Ext.alloc ?_ _ | exact Ext.refl _ | exact X_w1.out | (refine Ext.setCell ?_ ?_ _; rotate_left; (focus (simp; try omega)))))) x_w2)
    clear x_w2 s_w2
    go_wp2_with fail
    refine (c3.out _).mono ?_; rintro e w3 ⟨rfl, x_w3⟩
    obtain ⟨k_w3, f_w3⟩ := bcell x_w3
    have s_w3 := x_w3.size; (try simp at s_w3)
    have z0_w3 : w.heap.size < w3.heap.size := by omega
    have z1_w3 : w1.heap.size < w3.heap.size := by omega
    have z2_w3 : w2.heap.size < w3.heap.size := by omega
    have X_w3 := Lib.hid (show Ext w w3 from Ext.trans (by (repeat' (with_reducible first | refine Ext.drew ?_ | refine Ext.drewN ?_ _ | refine Ext.alloc ?_ _ | exact Ext.refl _ | exact X_w2.out | exact X_w1.out | (refine Ext.setCell ?_ ?_ _; rotate_left; (focus (simp; try omega)))))) x_w3)
    clear x_w3 s_w3
    go_wp2_with fail
    refine (ka.out _).mono ?_; rintro e w4 ⟨rfl, x_w4⟩
    obtain ⟨k_w4, f_w4⟩ := bcell x_w4
    have X_w4 := Lib.hid (show Ext w w4 from Ext.trans (by (repeat' (with_reducible first | refine Ext.drew ?_ | refine Ext.drewN ?_ _ | refine Ext.alloc ?_ _ | exact Ext.refl _ | exact X_w3.out | exact X_w2.out | exact X_w1.out | (refine Ext.setCell ?_ ?_ _; rotate_left; (focus (simp; try omega)))))) x_w4)
    clear x_w4
    go_wp2_with fail
    go_ret
    exact ⟨rfl, by (repeat' (with_reducible first | refine Ext.drew ?_ | refine Ext.drewN ?_ _ | refine Ext.alloc ?_ _ | exact Ext.refl _ | exact X_w4.out | exact X_w3.out | exact X_w2.out | exact X_w1.out | (refine Ext.setCell ?_ ?_ _; rotate_left; (focus (simp; try omega)))))⟩
  · have d3 := beq_f hT
    clear hT hc hv h k2
    go_enter Try.func12, Try.ntmps12
    go_wp2_with fail
    refine (c1.out _).mono ?_; rintro e w1 ⟨rfl, x_w1⟩
    obtain ⟨k_w1, f_w1⟩ := bcell x_w1
    have s_w1 := x_w1.size; (try simp at s_w1)
    have z0_w1 : w.heap.size < w1.heap.size := by omega
    have X_w1 := Lib.hid (show Ext w w1 from Ext.trans (by (repeat' (with_reducible first | refine Ext.drew ?_ | refine Ext.drewN ?_ _ | refine Ext.alloc ?_ _ | exact Ext.refl _ | fail | (refine Ext.setCell ?_ ?_ _; rotate_left; (focus (simp; try omega)))))) x_w1)
    clear x_w1 s_w1
    go_wp2_with fail
    refine (c2.out _).mono ?_; rintro e w2 ⟨rfl, x_w2⟩
    obtain ⟨k_w2, f_w2⟩ := bcell x_w2
    have s_w2 := x_w2.size; (try simp at s_w2)
    have z0_w2 : w.heap.size < w2.heap.size := by omega
    have z1_w2 : w1.heap.size < w2.heap.size := by omega
    have X_w2 := Lib.hid (show Ext w w2 from Ext.trans (by (repeat' (with_reducible first | refine Ext.drew ?_ | refine Ext.drewN ?_ _ | refine Ext.alloc ?_ _ | exact Ext.refl _ | exact X_w1.out | (refine Ext.setCell ?_ ?_ _; rotate_left; (focus (simp; try omega)))))) x_w2)
    clear x_w2 s_w2
    go_wp2_with fail
    refine (c3.out _).mono ?_; rintro e w3 ⟨rfl, x_w3⟩
    obtain ⟨k_w3, f_w3⟩ := bcell x_w3
    have s_w3 := x_w3.size; (try simp at s_w3)
    have z0_w3 : w.heap.size < w3.heap.size := by omega
    have z1_w3 : w1.heap.size < w3.heap.size := by omega
    have z2_w3 : w2.heap.size < w3.heap.size := by omega
    have X_w3 := Lib.hid (show Ext w w3 from Ext.trans (by (repeat' (with_reducible first | refine Ext.drew ?_ | refine Ext.drewN ?_ _ | refine Ext.alloc ?_ _ | exact Ext.refl _ | exact X_w2.out | exact X_w1.out | (refine Ext.setCell ?_ ?_ _; rotate_left; (focus (simp; try omega)))))) x_w3)
    clear x_w3 s_w3
    go_wp2_with fail
    refine (ka.out _).mono ?_; rintro e w4 ⟨rfl, x_w4⟩
    obtain ⟨k_w4, f_w4⟩ := bcell x_w4
    have X_w4 := Lib.hid (show Ext w w4 from Ext.trans (by (repeat' (with_reducible first | refine Ext.drew ?_ | refine Ext.drewN ?_ _ | refine Ext.alloc ?_ _ | exact Ext.refl _ | exact X_w3.out | exact X_w2.out | exact X_w1.out | (refine Ext.setCell ?_ ?_ _; rotate_left; (focus (simp; try omega)))))) x_w4)
    clear x_w4
    go_wp2_with fail
    go_ret
    exact ⟨rfl, by (repeat' (with_reducible first | refine Ext.drew ?_ | refine Ext.drewN ?_ _ | refine Ext.alloc ?_ _ | exact Ext.refl _ | exact X_w4.out | exact X_w3.out | exact X_w2.out | exact X_w1.out | (refine Ext.setCell ?_ ?_ _; rotate_left; (focus (simp; try omega)))))⟩
set_option maxHeartbeats 4000000 in
theorem law_ControlBounded_cold (T p i s u l : Int) (r v d : Int) (h : StepIs T p i s u l r v d) (hc : CVal T p i s u l) (r0 : -1073741824 ≤ r) (r1 : r ≤ 1073741824) (hp : l < p * (r - T)) (w : World) : Calls Try.prog 12 #[.agg #[.int .i64 T, .int .i64 p, .int .i64 i, .int .i64 s, .int .i64 u, .int .i64 l], .int .i64 r] w fun e w' => e = .returned (.bool true) ∧ Ext w w' := by
  have ka := Lib.hid law_awake
  obtain ⟨hv, k0, k1, k2⟩ := step_keeps h hc
  have c1 := Lib.hid fun w => control_Step T p i s u l r v d h w
  have c2 := Lib.hid fun w => control_Valid T p i s u l true (by rw [decide_eq_true hc]) w
  have c3 := Lib.hid fun w => control_Valid T p i s v l true (by rw [decide_eq_true hv]) w
  have nq := fun w => neqs T p i s u l w
  have d1 := dlt_f k0
  have d2 := dlt_f k1
  have hd0 := step_cold h hc hp
  have t1 := dle_t r0
  have t2 := dle_t r1
  have t3 : p ≤ 1048576 := hc.2.2.2.1
  have t4 : T ≤ 400000 := hc.2.1
  have t5 : 0 ≤ T := hc.1
  have tm : -(1048576 * 1074141824) ≤ p * (r - T) ∧ p * (r - T) ≤ 1048576 * 1074141824 := by
    unfold CVal at hc; exact mul_in (k := 1048576) (m := 1074141824) (by omega) (by omega) (by omega) (by omega)
  obtain ⟨tm1, tm2⟩ := tm
  have tp := dlt_t hp
  have td := beq_t hd0
  by_cases hT : T = 0
  · have d3 := beq_t hT
    have d4 := bne_f (k2 hT)
    clear hT hc hv h k2
    go_enter Try.func12, Try.ntmps12
    go_wp2_with fail
    refine (c1.out _).mono ?_; rintro e w1 ⟨rfl, x_w1⟩
    obtain ⟨k_w1, f_w1⟩ := bcell x_w1
    have s_w1 := x_w1.size; (try simp at s_w1)
    have z0_w1 : w.heap.size < w1.heap.size := by omega
    have X_w1 := Lib.hid (show Ext w w1 from Ext.trans (by (repeat' (with_reducible first | refine Ext.drew ?_ | refine Ext.drewN ?_ _ | refine Ext.alloc ?_ _ | exact Ext.refl _ | fail | (refine Ext.setCell ?_ ?_ _; rotate_left; (focus (simp; try omega)))))) x_w1)
    clear x_w1 s_w1
    go_wp2_with fail
    refine (c2.out _).mono ?_; rintro e w2 ⟨rfl, x_w2⟩
    obtain ⟨k_w2, f_w2⟩ := bcell x_w2
    have s_w2 := x_w2.size; (try simp at s_w2)
    have z0_w2 : w.heap.size < w2.heap.size := by omega
    have z1_w2 : w1.heap.size < w2.heap.size := by omega
    have X_w2 := Lib.hid (show Ext w w2 from Ext.trans (by (repeat' (with_reducible first | refine Ext.drew ?_ | refine Ext.drewN ?_ _ | refine Ext.alloc ?_ _ | exact Ext.refl _ | exact X_w1.out | (refine Ext.setCell ?_ ?_ _; rotate_left; (focus (simp; try omega)))))) x_w2)
    clear x_w2 s_w2
    go_wp2_with fail
    refine (c3.out _).mono ?_; rintro e w3 ⟨rfl, x_w3⟩
    obtain ⟨k_w3, f_w3⟩ := bcell x_w3
    have s_w3 := x_w3.size; (try simp at s_w3)
    have z0_w3 : w.heap.size < w3.heap.size := by omega
    have z1_w3 : w1.heap.size < w3.heap.size := by omega
    have z2_w3 : w2.heap.size < w3.heap.size := by omega
    have X_w3 := Lib.hid (show Ext w w3 from Ext.trans (by (repeat' (with_reducible first | refine Ext.drew ?_ | refine Ext.drewN ?_ _ | refine Ext.alloc ?_ _ | exact Ext.refl _ | exact X_w2.out | exact X_w1.out | (refine Ext.setCell ?_ ?_ _; rotate_left; (focus (simp; try omega)))))) x_w3)
    clear x_w3 s_w3
    go_wp2_with fail
    refine (ka.out _).mono ?_; rintro e w4 ⟨rfl, x_w4⟩
    obtain ⟨k_w4, f_w4⟩ := bcell x_w4
    have X_w4 := Lib.hid (show Ext w w4 from Ext.trans (by (repeat' (with_reducible first | refine Ext.drew ?_ | refine Ext.drewN ?_ _ | refine Ext.alloc ?_ _ | exact Ext.refl _ | exact X_w3.out | exact X_w2.out | exact X_w1.out | (refine Ext.setCell ?_ ?_ _; rotate_left; (focus (simp; try omega)))))) x_w4)
    clear x_w4
    go_wp2_with fail
    go_ret
    exact ⟨rfl, by (repeat' (with_reducible first | refine Ext.drew ?_ | refine Ext.drewN ?_ _ | refine Ext.alloc ?_ _ | exact Ext.refl _ | exact X_w4.out | exact X_w3.out | exact X_w2.out | exact X_w1.out | (refine Ext.setCell ?_ ?_ _; rotate_left; (focus (simp; try omega)))))⟩
  · have d3 := beq_f hT
    clear hT hc hv h k2
    go_enter Try.func12, Try.ntmps12
    go_wp2_with fail
    refine (c1.out _).mono ?_; rintro e w1 ⟨rfl, x_w1⟩
    obtain ⟨k_w1, f_w1⟩ := bcell x_w1
    have s_w1 := x_w1.size; (try simp at s_w1)
    have z0_w1 : w.heap.size < w1.heap.size := by omega
    have X_w1 := Lib.hid (show Ext w w1 from Ext.trans (by (repeat' (with_reducible first | refine Ext.drew ?_ | refine Ext.drewN ?_ _ | refine Ext.alloc ?_ _ | exact Ext.refl _ | fail | (refine Ext.setCell ?_ ?_ _; rotate_left; (focus (simp; try omega)))))) x_w1)
    clear x_w1 s_w1
    go_wp2_with fail
    refine (c2.out _).mono ?_; rintro e w2 ⟨rfl, x_w2⟩
    obtain ⟨k_w2, f_w2⟩ := bcell x_w2
    have s_w2 := x_w2.size; (try simp at s_w2)
    have z0_w2 : w.heap.size < w2.heap.size := by omega
    have z1_w2 : w1.heap.size < w2.heap.size := by omega
    have X_w2 := Lib.hid (show Ext w w2 from Ext.trans (by (repeat' (with_reducible first | refine Ext.drew ?_ | refine Ext.drewN ?_ _ | refine Ext.alloc ?_ _ | exact Ext.refl _ | exact X_w1.out | (refine Ext.setCell ?_ ?_ _; rotate_left; (focus (simp; try omega)))))) x_w2)
    clear x_w2 s_w2
    go_wp2_with fail
    refine (c3.out _).mono ?_; rintro e w3 ⟨rfl, x_w3⟩
    obtain ⟨k_w3, f_w3⟩ := bcell x_w3
    have s_w3 := x_w3.size; (try simp at s_w3)
    have z0_w3 : w.heap.size < w3.heap.size := by omega
    have z1_w3 : w1.heap.size < w3.heap.size := by omega
    have z2_w3 : w2.heap.size < w3.heap.size := by omega
    have X_w3 := Lib.hid (show Ext w w3 from Ext.trans (by (repeat' (with_reducible first | refine Ext.drew ?_ | refine Ext.drewN ?_ _ | refine Ext.alloc ?_ _ | exact Ext.refl _ | exact X_w2.out | exact X_w1.out | (refine Ext.setCell ?_ ?_ _; rotate_left; (focus (simp; try omega)))))) x_w3)
    clear x_w3 s_w3
    go_wp2_with fail
    refine (ka.out _).mono ?_; rintro e w4 ⟨rfl, x_w4⟩
    obtain ⟨k_w4, f_w4⟩ := bcell x_w4
    have X_w4 := Lib.hid (show Ext w w4 from Ext.trans (by (repeat' (with_reducible first | refine Ext.drew ?_ | refine Ext.drewN ?_ _ | refine Ext.alloc ?_ _ | exact Ext.refl _ | exact X_w3.out | exact X_w2.out | exact X_w1.out | (refine Ext.setCell ?_ ?_ _; rotate_left; (focus (simp; try omega)))))) x_w4)
    clear x_w4
    go_wp2_with fail
    go_ret
    exact ⟨rfl, by (repeat' (with_reducible first | refine Ext.drew ?_ | refine Ext.drewN ?_ _ | refine Ext.alloc ?_ _ | exact Ext.refl _ | exact X_w4.out | exact X_w3.out | exact X_w2.out | exact X_w1.out | (refine Ext.setCell ?_ ?_ _; rotate_left; (focus (simp; try omega)))))⟩
set_option maxHeartbeats 4000000 in
theorem law_ControlBounded_warm (T p i s u l : Int) (r v d : Int) (h : StepIs T p i s u l r v d) (hc : CVal T p i s u l) (r0 : -1073741824 ≤ r) (r1 : r ≤ 1073741824) (hp : p * (r - T) ≤ l) (w : World) : Calls Try.prog 12 #[.agg #[.int .i64 T, .int .i64 p, .int .i64 i, .int .i64 s, .int .i64 u, .int .i64 l], .int .i64 r] w fun e w' => e = .returned (.bool true) ∧ Ext w w' := by
  have ka := Lib.hid law_awake
  obtain ⟨hv, k0, k1, k2⟩ := step_keeps h hc
  have c1 := Lib.hid fun w => control_Step T p i s u l r v d h w
  have c2 := Lib.hid fun w => control_Valid T p i s u l true (by rw [decide_eq_true hc]) w
  have c3 := Lib.hid fun w => control_Valid T p i s v l true (by rw [decide_eq_true hv]) w
  have nq := fun w => neqs T p i s u l w
  have d1 := dlt_f k0
  have d2 := dlt_f k1
  have t1 := dle_t r0
  have t2 := dle_t r1
  have t3 : p ≤ 1048576 := hc.2.2.2.1
  have t4 : T ≤ 400000 := hc.2.1
  have t5 : 0 ≤ T := hc.1
  have tm : -(1048576 * 1074141824) ≤ p * (r - T) ∧ p * (r - T) ≤ 1048576 * 1074141824 := by
    unfold CVal at hc; exact mul_in (k := 1048576) (m := 1074141824) (by omega) (by omega) (by omega) (by omega)
  obtain ⟨tm1, tm2⟩ := tm
  have tp := dlt_f hp
  by_cases hT : T = 0
  · have d3 := beq_t hT
    have d4 := bne_f (k2 hT)
    clear hT hc hv h k2
    go_enter Try.func12, Try.ntmps12
    go_wp2_with fail
    refine (c1.out _).mono ?_; rintro e w1 ⟨rfl, x_w1⟩
    obtain ⟨k_w1, f_w1⟩ := bcell x_w1
    have s_w1 := x_w1.size; (try simp at s_w1)
    have z0_w1 : w.heap.size < w1.heap.size := by omega
    have X_w1 := Lib.hid (show Ext w w1 from Ext.trans (by (repeat' (with_reducible first | refine Ext.drew ?_ | refine Ext.drewN ?_ _ | refine Ext.alloc ?_ _ | exact Ext.refl _ | fail | (refine Ext.setCell ?_ ?_ _; rotate_left; (focus (simp; try omega)))))) x_w1)
    clear x_w1 s_w1
    go_wp2_with fail
    refine (c2.out _).mono ?_; rintro e w2 ⟨rfl, x_w2⟩
    obtain ⟨k_w2, f_w2⟩ := bcell x_w2
    have s_w2 := x_w2.size; (try simp at s_w2)
    have z0_w2 : w.heap.size < w2.heap.size := by omega
    have z1_w2 : w1.heap.size < w2.heap.size := by omega
    have X_w2 := Lib.hid (show Ext w w2 from Ext.trans (by (repeat' (with_reducible first | refine Ext.drew ?_ | refine Ext.drewN ?_ _ | refine Ext.alloc ?_ _ | exact Ext.refl _ | exact X_w1.out | (refine Ext.setCell ?_ ?_ _; rotate_left; (focus (simp; try omega)))))) x_w2)
    clear x_w2 s_w2
    go_wp2_with fail
    refine (c3.out _).mono ?_; rintro e w3 ⟨rfl, x_w3⟩
    obtain ⟨k_w3, f_w3⟩ := bcell x_w3
    have s_w3 := x_w3.size; (try simp at s_w3)
    have z0_w3 : w.heap.size < w3.heap.size := by omega
    have z1_w3 : w1.heap.size < w3.heap.size := by omega
    have z2_w3 : w2.heap.size < w3.heap.size := by omega
    have X_w3 := Lib.hid (show Ext w w3 from Ext.trans (by (repeat' (with_reducible first | refine Ext.drew ?_ | refine Ext.drewN ?_ _ | refine Ext.alloc ?_ _ | exact Ext.refl _ | exact X_w2.out | exact X_w1.out | (refine Ext.setCell ?_ ?_ _; rotate_left; (focus (simp; try omega)))))) x_w3)
    clear x_w3 s_w3
    go_wp2_with fail
    refine (ka.out _).mono ?_; rintro e w4 ⟨rfl, x_w4⟩
    obtain ⟨k_w4, f_w4⟩ := bcell x_w4
    have X_w4 := Lib.hid (show Ext w w4 from Ext.trans (by (repeat' (with_reducible first | refine Ext.drew ?_ | refine Ext.drewN ?_ _ | refine Ext.alloc ?_ _ | exact Ext.refl _ | exact X_w3.out | exact X_w2.out | exact X_w1.out | (refine Ext.setCell ?_ ?_ _; rotate_left; (focus (simp; try omega)))))) x_w4)
    clear x_w4
    go_wp2_with fail
    go_ret
    exact ⟨rfl, by (repeat' (with_reducible first | refine Ext.drew ?_ | refine Ext.drewN ?_ _ | refine Ext.alloc ?_ _ | exact Ext.refl _ | exact X_w4.out | exact X_w3.out | exact X_w2.out | exact X_w1.out | (refine Ext.setCell ?_ ?_ _; rotate_left; (focus (simp; try omega)))))⟩
  · have d3 := beq_f hT
    clear hT hc hv h k2
    go_enter Try.func12, Try.ntmps12
    go_wp2_with fail
    refine (c1.out _).mono ?_; rintro e w1 ⟨rfl, x_w1⟩
    obtain ⟨k_w1, f_w1⟩ := bcell x_w1
    have s_w1 := x_w1.size; (try simp at s_w1)
    have z0_w1 : w.heap.size < w1.heap.size := by omega
    have X_w1 := Lib.hid (show Ext w w1 from Ext.trans (by (repeat' (with_reducible first | refine Ext.drew ?_ | refine Ext.drewN ?_ _ | refine Ext.alloc ?_ _ | exact Ext.refl _ | fail | (refine Ext.setCell ?_ ?_ _; rotate_left; (focus (simp; try omega)))))) x_w1)
    clear x_w1 s_w1
    go_wp2_with fail
    refine (c2.out _).mono ?_; rintro e w2 ⟨rfl, x_w2⟩
    obtain ⟨k_w2, f_w2⟩ := bcell x_w2
    have s_w2 := x_w2.size; (try simp at s_w2)
    have z0_w2 : w.heap.size < w2.heap.size := by omega
    have z1_w2 : w1.heap.size < w2.heap.size := by omega
    have X_w2 := Lib.hid (show Ext w w2 from Ext.trans (by (repeat' (with_reducible first | refine Ext.drew ?_ | refine Ext.drewN ?_ _ | refine Ext.alloc ?_ _ | exact Ext.refl _ | exact X_w1.out | (refine Ext.setCell ?_ ?_ _; rotate_left; (focus (simp; try omega)))))) x_w2)
    clear x_w2 s_w2
    go_wp2_with fail
    refine (c3.out _).mono ?_; rintro e w3 ⟨rfl, x_w3⟩
    obtain ⟨k_w3, f_w3⟩ := bcell x_w3
    have s_w3 := x_w3.size; (try simp at s_w3)
    have z0_w3 : w.heap.size < w3.heap.size := by omega
    have z1_w3 : w1.heap.size < w3.heap.size := by omega
    have z2_w3 : w2.heap.size < w3.heap.size := by omega
    have X_w3 := Lib.hid (show Ext w w3 from Ext.trans (by (repeat' (with_reducible first | refine Ext.drew ?_ | refine Ext.drewN ?_ _ | refine Ext.alloc ?_ _ | exact Ext.refl _ | exact X_w2.out | exact X_w1.out | (refine Ext.setCell ?_ ?_ _; rotate_left; (focus (simp; try omega)))))) x_w3)
    clear x_w3 s_w3
    go_wp2_with fail
    refine (ka.out _).mono ?_; rintro e w4 ⟨rfl, x_w4⟩
    obtain ⟨k_w4, f_w4⟩ := bcell x_w4
    have X_w4 := Lib.hid (show Ext w w4 from Ext.trans (by (repeat' (with_reducible first | refine Ext.drew ?_ | refine Ext.drewN ?_ _ | refine Ext.alloc ?_ _ | exact Ext.refl _ | exact X_w3.out | exact X_w2.out | exact X_w1.out | (refine Ext.setCell ?_ ?_ _; rotate_left; (focus (simp; try omega)))))) x_w4)
    clear x_w4
    go_wp2_with fail
    go_ret
    exact ⟨rfl, by (repeat' (with_reducible first | refine Ext.drew ?_ | refine Ext.drewN ?_ _ | refine Ext.alloc ?_ _ | exact Ext.refl _ | exact X_w4.out | exact X_w3.out | exact X_w2.out | exact X_w1.out | (refine Ext.setCell ?_ ?_ _; rotate_left; (focus (simp; try omega)))))⟩
theorem law_ControlBounded (T p i s u l : Int) (r : Int) (w : World) : Calls Try.prog 12 #[.agg #[.int .i64 T, .int .i64 p, .int .i64 i, .int .i64 s, .int .i64 u, .int .i64 l], .int .i64 r] w fun e w' => e = .returned (.bool true) ∧ Ext w w' := by
  by_cases hc : CVal T p i s u l
  · obtain ⟨v, d, h⟩ := stepIs_ex T p i s u l r
    by_cases h1 : r < -1073741824
    · exact law_ControlBounded_low T p i s u l r v d h hc h1 w
    by_cases h2 : 1073741824 < r
    · exact law_ControlBounded_high T p i s u l r v d h hc h2 w
    by_cases hp : l < p * (r - T)
    · exact law_ControlBounded_cold T p i s u l r v d h hc (by omega) (by omega) hp w
    · exact law_ControlBounded_warm T p i s u l r v d h hc (by omega) (by omega) (by omega) w
  · exact law_ControlBounded_no T p i s u l r hc w
end Go.Proofs.Ytnljefglidhnjaa

