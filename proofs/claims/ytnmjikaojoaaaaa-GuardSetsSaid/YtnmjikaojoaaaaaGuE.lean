/-
  Contracts of Touch, Door, Stop and Reset of both.
-/
import Derived.Test.YtnmjikaojoaaaaaGuB
namespace Go.Proofs.Ytnmjikaojoaaaaa
open Go.RowKit
theorem guard_Touch_ok (lo hi wa ri ba bs cn il qu fa : Int) (dr : Bool) (h : GVal lo hi wa ri ba bs cn il qu fa) (w : World) :
    Calls Try.prog 32 #[.agg #[.int .i64 lo, .int .i64 hi, .int .i64 wa, .int .i64 ri, .int .i64 ba, .int .i64 bs, .int .i64 cn, .int .i64 il, .int .i64 qu, .int .i64 fa, .bool dr]] w fun e w' => e = .returned (.agg #[.int .i64 lo, .int .i64 hi, .int .i64 wa, .int .i64 ri, .int .i64 ba, .int .i64 bs, .int .i64 cn, .int .i64 il, .int .i64 0, .int .i64 fa, .bool dr]) ∧ Ext w w' := by
  have c1 := Lib.hid fun w => guard_GValid lo hi wa ri ba bs cn il qu fa dr true (by rw [decide_eq_true h]) w
  clear h
  go_enter Try.func32, Try.ntmps32
  go_wp2_with fail
  refine (c1.out _).mono ?_; rintro e w1 ⟨rfl, x_w1⟩
  obtain ⟨k_w1, f_w1⟩ := bcell x_w1
  have s_w1 := x_w1.size; (try simp at s_w1)
  have z0_w1 : w.heap.size < w1.heap.size := by omega
  have z1_w1 : w.heap.size + 1 < w1.heap.size := by omega
  have q0_w1 : w1.cell? ⟨w.heap.size, 0, none⟩ = some (.int .i64 lo) := by rw [k_w1 _ _ (by first | omega | (simp; done) | (simp; omega))]; go_simp
  have q1_w1 : w1.cell? ⟨w.heap.size, 1, none⟩ = some (.int .i64 hi) := by rw [k_w1 _ _ (by first | omega | (simp; done) | (simp; omega))]; go_simp
  have q2_w1 : w1.cell? ⟨w.heap.size, 2, none⟩ = some (.int .i64 wa) := by rw [k_w1 _ _ (by first | omega | (simp; done) | (simp; omega))]; go_simp
  have q3_w1 : w1.cell? ⟨w.heap.size, 3, none⟩ = some (.int .i64 ri) := by rw [k_w1 _ _ (by first | omega | (simp; done) | (simp; omega))]; go_simp
  have q4_w1 : w1.cell? ⟨w.heap.size, 4, none⟩ = some (.int .i64 ba) := by rw [k_w1 _ _ (by first | omega | (simp; done) | (simp; omega))]; go_simp
  have q5_w1 : w1.cell? ⟨w.heap.size, 5, none⟩ = some (.int .i64 bs) := by rw [k_w1 _ _ (by first | omega | (simp; done) | (simp; omega))]; go_simp
  have q6_w1 : w1.cell? ⟨w.heap.size, 6, none⟩ = some (.int .i64 cn) := by rw [k_w1 _ _ (by first | omega | (simp; done) | (simp; omega))]; go_simp
  have q7_w1 : w1.cell? ⟨w.heap.size, 7, none⟩ = some (.int .i64 il) := by rw [k_w1 _ _ (by first | omega | (simp; done) | (simp; omega))]; go_simp
  have q8_w1 : w1.cell? ⟨w.heap.size, 8, none⟩ = some (.int .i64 qu) := by rw [k_w1 _ _ (by first | omega | (simp; done) | (simp; omega))]; go_simp
  have q9_w1 : w1.cell? ⟨w.heap.size, 9, none⟩ = some (.int .i64 fa) := by rw [k_w1 _ _ (by first | omega | (simp; done) | (simp; omega))]; go_simp
  have q10_w1 : w1.cell? ⟨w.heap.size, 10, none⟩ = some (.bool dr) := by rw [k_w1 _ _ (by first | omega | (simp; done) | (simp; omega))]; go_simp
  have X_w1 := Lib.hid (show Ext w w1 from Ext.trans (by (repeat' (with_reducible first | refine Ext.drew ?_ | refine Ext.drewN ?_ _ | refine Ext.alloc ?_ _ | exact Ext.refl _ | fail | (refine Ext.setCell ?_ ?_ _; rotate_left; (focus ((try simp); try omega)))))) x_w1)
  clear x_w1 s_w1
  go_wp2_with fail
  exact bodyPost_ret (v := .agg #[.int .i64 lo, .int .i64 hi, .int .i64 wa, .int .i64 ri, .int .i64 ba, .int .i64 bs, .int .i64 cn, .int .i64 il, .int .i64 0, .int .i64 fa, .bool dr]) (by simp [results, Try.results32, go_sem, *]) rfl ⟨rfl, by (repeat' (with_reducible first | refine Ext.drew ?_ | refine Ext.drewN ?_ _ | refine Ext.alloc ?_ _ | exact Ext.refl _ | exact X_w1.out | (refine Ext.setCell ?_ ?_ _; rotate_left; (focus ((try simp); try omega)))))⟩
theorem guard_Touch_no (lo hi wa ri ba bs cn il qu fa : Int) (dr : Bool) (h : ¬ GVal lo hi wa ri ba bs cn il qu fa) (w : World) :
    Calls Try.prog 32 #[.agg #[.int .i64 lo, .int .i64 hi, .int .i64 wa, .int .i64 ri, .int .i64 ba, .int .i64 bs, .int .i64 cn, .int .i64 il, .int .i64 qu, .int .i64 fa, .bool dr]] w fun e w' => e = .returned (.agg #[.int .i64 lo, .int .i64 hi, .int .i64 wa, .int .i64 ri, .int .i64 ba, .int .i64 bs, .int .i64 cn, .int .i64 il, .int .i64 qu, .int .i64 fa, .bool dr]) ∧ Ext w w' := by
  have c1 := Lib.hid fun w => guard_GValid lo hi wa ri ba bs cn il qu fa dr false (by rw [decide_eq_false h]) w
  clear h
  go_enter Try.func32, Try.ntmps32
  go_wp2_with fail
  refine (c1.out _).mono ?_; rintro e w1 ⟨rfl, x_w1⟩
  obtain ⟨k_w1, f_w1⟩ := bcell x_w1
  have s_w1 := x_w1.size; (try simp at s_w1)
  have z0_w1 : w.heap.size < w1.heap.size := by omega
  have z1_w1 : w.heap.size + 1 < w1.heap.size := by omega
  have q0_w1 : w1.cell? ⟨w.heap.size, 0, none⟩ = some (.int .i64 lo) := by rw [k_w1 _ _ (by first | omega | (simp; done) | (simp; omega))]; go_simp
  have q1_w1 : w1.cell? ⟨w.heap.size, 1, none⟩ = some (.int .i64 hi) := by rw [k_w1 _ _ (by first | omega | (simp; done) | (simp; omega))]; go_simp
  have q2_w1 : w1.cell? ⟨w.heap.size, 2, none⟩ = some (.int .i64 wa) := by rw [k_w1 _ _ (by first | omega | (simp; done) | (simp; omega))]; go_simp
  have q3_w1 : w1.cell? ⟨w.heap.size, 3, none⟩ = some (.int .i64 ri) := by rw [k_w1 _ _ (by first | omega | (simp; done) | (simp; omega))]; go_simp
  have q4_w1 : w1.cell? ⟨w.heap.size, 4, none⟩ = some (.int .i64 ba) := by rw [k_w1 _ _ (by first | omega | (simp; done) | (simp; omega))]; go_simp
  have q5_w1 : w1.cell? ⟨w.heap.size, 5, none⟩ = some (.int .i64 bs) := by rw [k_w1 _ _ (by first | omega | (simp; done) | (simp; omega))]; go_simp
  have q6_w1 : w1.cell? ⟨w.heap.size, 6, none⟩ = some (.int .i64 cn) := by rw [k_w1 _ _ (by first | omega | (simp; done) | (simp; omega))]; go_simp
  have q7_w1 : w1.cell? ⟨w.heap.size, 7, none⟩ = some (.int .i64 il) := by rw [k_w1 _ _ (by first | omega | (simp; done) | (simp; omega))]; go_simp
  have q8_w1 : w1.cell? ⟨w.heap.size, 8, none⟩ = some (.int .i64 qu) := by rw [k_w1 _ _ (by first | omega | (simp; done) | (simp; omega))]; go_simp
  have q9_w1 : w1.cell? ⟨w.heap.size, 9, none⟩ = some (.int .i64 fa) := by rw [k_w1 _ _ (by first | omega | (simp; done) | (simp; omega))]; go_simp
  have q10_w1 : w1.cell? ⟨w.heap.size, 10, none⟩ = some (.bool dr) := by rw [k_w1 _ _ (by first | omega | (simp; done) | (simp; omega))]; go_simp
  have X_w1 := Lib.hid (show Ext w w1 from Ext.trans (by (repeat' (with_reducible first | refine Ext.drew ?_ | refine Ext.drewN ?_ _ | refine Ext.alloc ?_ _ | exact Ext.refl _ | fail | (refine Ext.setCell ?_ ?_ _; rotate_left; (focus ((try simp); try omega)))))) x_w1)
  clear x_w1 s_w1
  go_wp2_with fail
  exact bodyPost_ret (v := .agg #[.int .i64 lo, .int .i64 hi, .int .i64 wa, .int .i64 ri, .int .i64 ba, .int .i64 bs, .int .i64 cn, .int .i64 il, .int .i64 qu, .int .i64 fa, .bool dr]) (by simp [results, Try.results32, go_sem, *]) rfl ⟨rfl, by (repeat' (with_reducible first | refine Ext.drew ?_ | refine Ext.drewN ?_ _ | refine Ext.alloc ?_ _ | exact Ext.refl _ | exact X_w1.out | (refine Ext.setCell ?_ ?_ _; rotate_left; (focus ((try simp); try omega)))))⟩
theorem guard_Door_ok (lo hi wa ri ba bs cn il qu fa : Int) (dr : Bool) (x : Bool) (h : GVal lo hi wa ri ba bs cn il qu fa) (w : World) :
    Calls Try.prog 34 #[.agg #[.int .i64 lo, .int .i64 hi, .int .i64 wa, .int .i64 ri, .int .i64 ba, .int .i64 bs, .int .i64 cn, .int .i64 il, .int .i64 qu, .int .i64 fa, .bool dr], .bool x] w fun e w' => e = .returned (.agg #[.int .i64 lo, .int .i64 hi, .int .i64 wa, .int .i64 ri, .int .i64 ba, .int .i64 bs, .int .i64 cn, .int .i64 il, .int .i64 qu, .int .i64 fa, .bool x]) ∧ Ext w w' := by
  have c1 := Lib.hid fun w => guard_GValid lo hi wa ri ba bs cn il qu fa dr true (by rw [decide_eq_true h]) w
  clear h
  go_enter Try.func34, Try.ntmps34
  go_wp2_with fail
  refine (c1.out _).mono ?_; rintro e w1 ⟨rfl, x_w1⟩
  obtain ⟨k_w1, f_w1⟩ := bcell x_w1
  have s_w1 := x_w1.size; (try simp at s_w1)
  have z0_w1 : w.heap.size < w1.heap.size := by omega
  have z1_w1 : w.heap.size + 1 < w1.heap.size := by omega
  have q0_w1 : w1.cell? ⟨w.heap.size, 0, none⟩ = some (.int .i64 lo) := by rw [k_w1 _ _ (by first | omega | (simp; done) | (simp; omega))]; go_simp
  have q1_w1 : w1.cell? ⟨w.heap.size, 1, none⟩ = some (.int .i64 hi) := by rw [k_w1 _ _ (by first | omega | (simp; done) | (simp; omega))]; go_simp
  have q2_w1 : w1.cell? ⟨w.heap.size, 2, none⟩ = some (.int .i64 wa) := by rw [k_w1 _ _ (by first | omega | (simp; done) | (simp; omega))]; go_simp
  have q3_w1 : w1.cell? ⟨w.heap.size, 3, none⟩ = some (.int .i64 ri) := by rw [k_w1 _ _ (by first | omega | (simp; done) | (simp; omega))]; go_simp
  have q4_w1 : w1.cell? ⟨w.heap.size, 4, none⟩ = some (.int .i64 ba) := by rw [k_w1 _ _ (by first | omega | (simp; done) | (simp; omega))]; go_simp
  have q5_w1 : w1.cell? ⟨w.heap.size, 5, none⟩ = some (.int .i64 bs) := by rw [k_w1 _ _ (by first | omega | (simp; done) | (simp; omega))]; go_simp
  have q6_w1 : w1.cell? ⟨w.heap.size, 6, none⟩ = some (.int .i64 cn) := by rw [k_w1 _ _ (by first | omega | (simp; done) | (simp; omega))]; go_simp
  have q7_w1 : w1.cell? ⟨w.heap.size, 7, none⟩ = some (.int .i64 il) := by rw [k_w1 _ _ (by first | omega | (simp; done) | (simp; omega))]; go_simp
  have q8_w1 : w1.cell? ⟨w.heap.size, 8, none⟩ = some (.int .i64 qu) := by rw [k_w1 _ _ (by first | omega | (simp; done) | (simp; omega))]; go_simp
  have q9_w1 : w1.cell? ⟨w.heap.size, 9, none⟩ = some (.int .i64 fa) := by rw [k_w1 _ _ (by first | omega | (simp; done) | (simp; omega))]; go_simp
  have q10_w1 : w1.cell? ⟨w.heap.size, 10, none⟩ = some (.bool dr) := by rw [k_w1 _ _ (by first | omega | (simp; done) | (simp; omega))]; go_simp
  have X_w1 := Lib.hid (show Ext w w1 from Ext.trans (by (repeat' (with_reducible first | refine Ext.drew ?_ | refine Ext.drewN ?_ _ | refine Ext.alloc ?_ _ | exact Ext.refl _ | fail | (refine Ext.setCell ?_ ?_ _; rotate_left; (focus ((try simp); try omega)))))) x_w1)
  clear x_w1 s_w1
  go_wp2_with fail
  exact bodyPost_ret (v := .agg #[.int .i64 lo, .int .i64 hi, .int .i64 wa, .int .i64 ri, .int .i64 ba, .int .i64 bs, .int .i64 cn, .int .i64 il, .int .i64 qu, .int .i64 fa, .bool x]) (by simp [results, Try.results34, go_sem, *]) rfl ⟨rfl, by (repeat' (with_reducible first | refine Ext.drew ?_ | refine Ext.drewN ?_ _ | refine Ext.alloc ?_ _ | exact Ext.refl _ | exact X_w1.out | (refine Ext.setCell ?_ ?_ _; rotate_left; (focus ((try simp); try omega)))))⟩
theorem guard_Door_no (lo hi wa ri ba bs cn il qu fa : Int) (dr : Bool) (x : Bool) (h : ¬ GVal lo hi wa ri ba bs cn il qu fa) (w : World) :
    Calls Try.prog 34 #[.agg #[.int .i64 lo, .int .i64 hi, .int .i64 wa, .int .i64 ri, .int .i64 ba, .int .i64 bs, .int .i64 cn, .int .i64 il, .int .i64 qu, .int .i64 fa, .bool dr], .bool x] w fun e w' => e = .returned (.agg #[.int .i64 lo, .int .i64 hi, .int .i64 wa, .int .i64 ri, .int .i64 ba, .int .i64 bs, .int .i64 cn, .int .i64 il, .int .i64 qu, .int .i64 fa, .bool dr]) ∧ Ext w w' := by
  have c1 := Lib.hid fun w => guard_GValid lo hi wa ri ba bs cn il qu fa dr false (by rw [decide_eq_false h]) w
  clear h
  go_enter Try.func34, Try.ntmps34
  go_wp2_with fail
  refine (c1.out _).mono ?_; rintro e w1 ⟨rfl, x_w1⟩
  obtain ⟨k_w1, f_w1⟩ := bcell x_w1
  have s_w1 := x_w1.size; (try simp at s_w1)
  have z0_w1 : w.heap.size < w1.heap.size := by omega
  have z1_w1 : w.heap.size + 1 < w1.heap.size := by omega
  have q0_w1 : w1.cell? ⟨w.heap.size, 0, none⟩ = some (.int .i64 lo) := by rw [k_w1 _ _ (by first | omega | (simp; done) | (simp; omega))]; go_simp
  have q1_w1 : w1.cell? ⟨w.heap.size, 1, none⟩ = some (.int .i64 hi) := by rw [k_w1 _ _ (by first | omega | (simp; done) | (simp; omega))]; go_simp
  have q2_w1 : w1.cell? ⟨w.heap.size, 2, none⟩ = some (.int .i64 wa) := by rw [k_w1 _ _ (by first | omega | (simp; done) | (simp; omega))]; go_simp
  have q3_w1 : w1.cell? ⟨w.heap.size, 3, none⟩ = some (.int .i64 ri) := by rw [k_w1 _ _ (by first | omega | (simp; done) | (simp; omega))]; go_simp
  have q4_w1 : w1.cell? ⟨w.heap.size, 4, none⟩ = some (.int .i64 ba) := by rw [k_w1 _ _ (by first | omega | (simp; done) | (simp; omega))]; go_simp
  have q5_w1 : w1.cell? ⟨w.heap.size, 5, none⟩ = some (.int .i64 bs) := by rw [k_w1 _ _ (by first | omega | (simp; done) | (simp; omega))]; go_simp
  have q6_w1 : w1.cell? ⟨w.heap.size, 6, none⟩ = some (.int .i64 cn) := by rw [k_w1 _ _ (by first | omega | (simp; done) | (simp; omega))]; go_simp
  have q7_w1 : w1.cell? ⟨w.heap.size, 7, none⟩ = some (.int .i64 il) := by rw [k_w1 _ _ (by first | omega | (simp; done) | (simp; omega))]; go_simp
  have q8_w1 : w1.cell? ⟨w.heap.size, 8, none⟩ = some (.int .i64 qu) := by rw [k_w1 _ _ (by first | omega | (simp; done) | (simp; omega))]; go_simp
  have q9_w1 : w1.cell? ⟨w.heap.size, 9, none⟩ = some (.int .i64 fa) := by rw [k_w1 _ _ (by first | omega | (simp; done) | (simp; omega))]; go_simp
  have q10_w1 : w1.cell? ⟨w.heap.size, 10, none⟩ = some (.bool dr) := by rw [k_w1 _ _ (by first | omega | (simp; done) | (simp; omega))]; go_simp
  have X_w1 := Lib.hid (show Ext w w1 from Ext.trans (by (repeat' (with_reducible first | refine Ext.drew ?_ | refine Ext.drewN ?_ _ | refine Ext.alloc ?_ _ | exact Ext.refl _ | fail | (refine Ext.setCell ?_ ?_ _; rotate_left; (focus ((try simp); try omega)))))) x_w1)
  clear x_w1 s_w1
  go_wp2_with fail
  exact bodyPost_ret (v := .agg #[.int .i64 lo, .int .i64 hi, .int .i64 wa, .int .i64 ri, .int .i64 ba, .int .i64 bs, .int .i64 cn, .int .i64 il, .int .i64 qu, .int .i64 fa, .bool dr]) (by simp [results, Try.results34, go_sem, *]) rfl ⟨rfl, by (repeat' (with_reducible first | refine Ext.drew ?_ | refine Ext.drewN ?_ _ | refine Ext.alloc ?_ _ | exact Ext.refl _ | exact X_w1.out | (refine Ext.setCell ?_ ?_ _; rotate_left; (focus ((try simp); try omega)))))⟩
theorem guard_Stop_ok (lo hi wa ri ba bs cn il qu fa : Int) (dr : Bool) (h : GVal lo hi wa ri ba bs cn il qu fa) (w : World) :
    Calls Try.prog 36 #[.agg #[.int .i64 lo, .int .i64 hi, .int .i64 wa, .int .i64 ri, .int .i64 ba, .int .i64 bs, .int .i64 cn, .int .i64 il, .int .i64 qu, .int .i64 fa, .bool dr]] w fun e w' => e = .returned (.agg #[.int .i64 lo, .int .i64 hi, .int .i64 wa, .int .i64 ri, .int .i64 ba, .int .i64 bs, .int .i64 cn, .int .i64 il, .int .i64 qu, .int .i64 4, .bool dr]) ∧ Ext w w' := by
  have c1 := Lib.hid fun w => guard_GValid lo hi wa ri ba bs cn il qu fa dr true (by rw [decide_eq_true h]) w
  clear h
  go_enter Try.func36, Try.ntmps36
  go_wp2_with fail
  refine (c1.out _).mono ?_; rintro e w1 ⟨rfl, x_w1⟩
  obtain ⟨k_w1, f_w1⟩ := bcell x_w1
  have s_w1 := x_w1.size; (try simp at s_w1)
  have z0_w1 : w.heap.size < w1.heap.size := by omega
  have z1_w1 : w.heap.size + 1 < w1.heap.size := by omega
  have q0_w1 : w1.cell? ⟨w.heap.size, 0, none⟩ = some (.int .i64 lo) := by rw [k_w1 _ _ (by first | omega | (simp; done) | (simp; omega))]; go_simp
  have q1_w1 : w1.cell? ⟨w.heap.size, 1, none⟩ = some (.int .i64 hi) := by rw [k_w1 _ _ (by first | omega | (simp; done) | (simp; omega))]; go_simp
  have q2_w1 : w1.cell? ⟨w.heap.size, 2, none⟩ = some (.int .i64 wa) := by rw [k_w1 _ _ (by first | omega | (simp; done) | (simp; omega))]; go_simp
  have q3_w1 : w1.cell? ⟨w.heap.size, 3, none⟩ = some (.int .i64 ri) := by rw [k_w1 _ _ (by first | omega | (simp; done) | (simp; omega))]; go_simp
  have q4_w1 : w1.cell? ⟨w.heap.size, 4, none⟩ = some (.int .i64 ba) := by rw [k_w1 _ _ (by first | omega | (simp; done) | (simp; omega))]; go_simp
  have q5_w1 : w1.cell? ⟨w.heap.size, 5, none⟩ = some (.int .i64 bs) := by rw [k_w1 _ _ (by first | omega | (simp; done) | (simp; omega))]; go_simp
  have q6_w1 : w1.cell? ⟨w.heap.size, 6, none⟩ = some (.int .i64 cn) := by rw [k_w1 _ _ (by first | omega | (simp; done) | (simp; omega))]; go_simp
  have q7_w1 : w1.cell? ⟨w.heap.size, 7, none⟩ = some (.int .i64 il) := by rw [k_w1 _ _ (by first | omega | (simp; done) | (simp; omega))]; go_simp
  have q8_w1 : w1.cell? ⟨w.heap.size, 8, none⟩ = some (.int .i64 qu) := by rw [k_w1 _ _ (by first | omega | (simp; done) | (simp; omega))]; go_simp
  have q9_w1 : w1.cell? ⟨w.heap.size, 9, none⟩ = some (.int .i64 fa) := by rw [k_w1 _ _ (by first | omega | (simp; done) | (simp; omega))]; go_simp
  have q10_w1 : w1.cell? ⟨w.heap.size, 10, none⟩ = some (.bool dr) := by rw [k_w1 _ _ (by first | omega | (simp; done) | (simp; omega))]; go_simp
  have X_w1 := Lib.hid (show Ext w w1 from Ext.trans (by (repeat' (with_reducible first | refine Ext.drew ?_ | refine Ext.drewN ?_ _ | refine Ext.alloc ?_ _ | exact Ext.refl _ | fail | (refine Ext.setCell ?_ ?_ _; rotate_left; (focus ((try simp); try omega)))))) x_w1)
  clear x_w1 s_w1
  go_wp2_with fail
  exact bodyPost_ret (v := .agg #[.int .i64 lo, .int .i64 hi, .int .i64 wa, .int .i64 ri, .int .i64 ba, .int .i64 bs, .int .i64 cn, .int .i64 il, .int .i64 qu, .int .i64 4, .bool dr]) (by simp [results, Try.results36, go_sem, *]) rfl ⟨rfl, by (repeat' (with_reducible first | refine Ext.drew ?_ | refine Ext.drewN ?_ _ | refine Ext.alloc ?_ _ | exact Ext.refl _ | exact X_w1.out | (refine Ext.setCell ?_ ?_ _; rotate_left; (focus ((try simp); try omega)))))⟩
theorem guard_Stop_no (lo hi wa ri ba bs cn il qu fa : Int) (dr : Bool) (h : ¬ GVal lo hi wa ri ba bs cn il qu fa) (w : World) :
    Calls Try.prog 36 #[.agg #[.int .i64 lo, .int .i64 hi, .int .i64 wa, .int .i64 ri, .int .i64 ba, .int .i64 bs, .int .i64 cn, .int .i64 il, .int .i64 qu, .int .i64 fa, .bool dr]] w fun e w' => e = .returned (.agg #[.int .i64 lo, .int .i64 hi, .int .i64 wa, .int .i64 ri, .int .i64 ba, .int .i64 bs, .int .i64 cn, .int .i64 il, .int .i64 qu, .int .i64 fa, .bool dr]) ∧ Ext w w' := by
  have c1 := Lib.hid fun w => guard_GValid lo hi wa ri ba bs cn il qu fa dr false (by rw [decide_eq_false h]) w
  clear h
  go_enter Try.func36, Try.ntmps36
  go_wp2_with fail
  refine (c1.out _).mono ?_; rintro e w1 ⟨rfl, x_w1⟩
  obtain ⟨k_w1, f_w1⟩ := bcell x_w1
  have s_w1 := x_w1.size; (try simp at s_w1)
  have z0_w1 : w.heap.size < w1.heap.size := by omega
  have z1_w1 : w.heap.size + 1 < w1.heap.size := by omega
  have q0_w1 : w1.cell? ⟨w.heap.size, 0, none⟩ = some (.int .i64 lo) := by rw [k_w1 _ _ (by first | omega | (simp; done) | (simp; omega))]; go_simp
  have q1_w1 : w1.cell? ⟨w.heap.size, 1, none⟩ = some (.int .i64 hi) := by rw [k_w1 _ _ (by first | omega | (simp; done) | (simp; omega))]; go_simp
  have q2_w1 : w1.cell? ⟨w.heap.size, 2, none⟩ = some (.int .i64 wa) := by rw [k_w1 _ _ (by first | omega | (simp; done) | (simp; omega))]; go_simp
  have q3_w1 : w1.cell? ⟨w.heap.size, 3, none⟩ = some (.int .i64 ri) := by rw [k_w1 _ _ (by first | omega | (simp; done) | (simp; omega))]; go_simp
  have q4_w1 : w1.cell? ⟨w.heap.size, 4, none⟩ = some (.int .i64 ba) := by rw [k_w1 _ _ (by first | omega | (simp; done) | (simp; omega))]; go_simp
  have q5_w1 : w1.cell? ⟨w.heap.size, 5, none⟩ = some (.int .i64 bs) := by rw [k_w1 _ _ (by first | omega | (simp; done) | (simp; omega))]; go_simp
  have q6_w1 : w1.cell? ⟨w.heap.size, 6, none⟩ = some (.int .i64 cn) := by rw [k_w1 _ _ (by first | omega | (simp; done) | (simp; omega))]; go_simp
  have q7_w1 : w1.cell? ⟨w.heap.size, 7, none⟩ = some (.int .i64 il) := by rw [k_w1 _ _ (by first | omega | (simp; done) | (simp; omega))]; go_simp
  have q8_w1 : w1.cell? ⟨w.heap.size, 8, none⟩ = some (.int .i64 qu) := by rw [k_w1 _ _ (by first | omega | (simp; done) | (simp; omega))]; go_simp
  have q9_w1 : w1.cell? ⟨w.heap.size, 9, none⟩ = some (.int .i64 fa) := by rw [k_w1 _ _ (by first | omega | (simp; done) | (simp; omega))]; go_simp
  have q10_w1 : w1.cell? ⟨w.heap.size, 10, none⟩ = some (.bool dr) := by rw [k_w1 _ _ (by first | omega | (simp; done) | (simp; omega))]; go_simp
  have X_w1 := Lib.hid (show Ext w w1 from Ext.trans (by (repeat' (with_reducible first | refine Ext.drew ?_ | refine Ext.drewN ?_ _ | refine Ext.alloc ?_ _ | exact Ext.refl _ | fail | (refine Ext.setCell ?_ ?_ _; rotate_left; (focus ((try simp); try omega)))))) x_w1)
  clear x_w1 s_w1
  go_wp2_with fail
  exact bodyPost_ret (v := .agg #[.int .i64 lo, .int .i64 hi, .int .i64 wa, .int .i64 ri, .int .i64 ba, .int .i64 bs, .int .i64 cn, .int .i64 il, .int .i64 qu, .int .i64 fa, .bool dr]) (by simp [results, Try.results36, go_sem, *]) rfl ⟨rfl, by (repeat' (with_reducible first | refine Ext.drew ?_ | refine Ext.drewN ?_ _ | refine Ext.alloc ?_ _ | exact Ext.refl _ | exact X_w1.out | (refine Ext.setCell ?_ ?_ _; rotate_left; (focus ((try simp); try omega)))))⟩
theorem guard_Reset_arg (lo hi wa ri ba bs cn il qu fa r : Int) (dr : Bool) (h : ¬ GVal lo hi wa ri ba bs cn il qu fa) (w : World) :
    Calls Try.prog 30 #[.agg #[.int .i64 lo, .int .i64 hi, .int .i64 wa, .int .i64 ri, .int .i64 ba, .int .i64 bs, .int .i64 cn, .int .i64 il, .int .i64 qu, .int .i64 fa, .bool dr], .int .i64 r] w fun e w' => e = .returned (.tuple #[.agg #[.int .i64 0, .int .i64 0, .int .i64 0, .int .i64 0, .int .i64 0, .int .i64 0, .int .i64 0, .int .i64 0, .int .i64 0, .int .i64 0, .bool false], .int .i64 1]) ∧ Ext w w' := by
  have c1 := Lib.hid fun w => guard_GValid lo hi wa ri ba bs cn il qu fa dr false (by rw [decide_eq_false h]) w
  clear h
  go_enter Try.func30, Try.ntmps30
  go_wp2_with fail
  refine (c1.out _).mono ?_; rintro e w1 ⟨rfl, x_w1⟩
  obtain ⟨k_w1, f_w1⟩ := bcell x_w1
  have s_w1 := x_w1.size; (try simp at s_w1)
  have z0_w1 : w.heap.size < w1.heap.size := by omega
  have z1_w1 : w.heap.size + 1 < w1.heap.size := by omega
  have q0_w1 : w1.cell? ⟨w.heap.size, 0, none⟩ = some (.int .i64 lo) := by rw [k_w1 _ _ (by first | omega | (simp; done) | (simp; omega))]; go_simp
  have q1_w1 : w1.cell? ⟨w.heap.size, 1, none⟩ = some (.int .i64 hi) := by rw [k_w1 _ _ (by first | omega | (simp; done) | (simp; omega))]; go_simp
  have q2_w1 : w1.cell? ⟨w.heap.size, 2, none⟩ = some (.int .i64 wa) := by rw [k_w1 _ _ (by first | omega | (simp; done) | (simp; omega))]; go_simp
  have q3_w1 : w1.cell? ⟨w.heap.size, 3, none⟩ = some (.int .i64 ri) := by rw [k_w1 _ _ (by first | omega | (simp; done) | (simp; omega))]; go_simp
  have q4_w1 : w1.cell? ⟨w.heap.size, 4, none⟩ = some (.int .i64 ba) := by rw [k_w1 _ _ (by first | omega | (simp; done) | (simp; omega))]; go_simp
  have q5_w1 : w1.cell? ⟨w.heap.size, 5, none⟩ = some (.int .i64 bs) := by rw [k_w1 _ _ (by first | omega | (simp; done) | (simp; omega))]; go_simp
  have q6_w1 : w1.cell? ⟨w.heap.size, 6, none⟩ = some (.int .i64 cn) := by rw [k_w1 _ _ (by first | omega | (simp; done) | (simp; omega))]; go_simp
  have q7_w1 : w1.cell? ⟨w.heap.size, 7, none⟩ = some (.int .i64 il) := by rw [k_w1 _ _ (by first | omega | (simp; done) | (simp; omega))]; go_simp
  have q8_w1 : w1.cell? ⟨w.heap.size, 8, none⟩ = some (.int .i64 qu) := by rw [k_w1 _ _ (by first | omega | (simp; done) | (simp; omega))]; go_simp
  have q9_w1 : w1.cell? ⟨w.heap.size, 9, none⟩ = some (.int .i64 fa) := by rw [k_w1 _ _ (by first | omega | (simp; done) | (simp; omega))]; go_simp
  have q10_w1 : w1.cell? ⟨w.heap.size, 10, none⟩ = some (.bool dr) := by rw [k_w1 _ _ (by first | omega | (simp; done) | (simp; omega))]; go_simp
  have X_w1 := Lib.hid (show Ext w w1 from Ext.trans (by (repeat' (with_reducible first | refine Ext.drew ?_ | refine Ext.drewN ?_ _ | refine Ext.alloc ?_ _ | exact Ext.refl _ | fail | (refine Ext.setCell ?_ ?_ _; rotate_left; (focus ((try simp); try omega)))))) x_w1)
  clear x_w1 s_w1
  go_wp2_with fail
  exact bodyPost_ret (v := .tuple #[.agg #[.int .i64 0, .int .i64 0, .int .i64 0, .int .i64 0, .int .i64 0, .int .i64 0, .int .i64 0, .int .i64 0, .int .i64 0, .int .i64 0, .bool false], .int .i64 1]) (by simp [results, Try.results30, go_sem, *]) rfl ⟨rfl, by (repeat' (with_reducible first | refine Ext.drew ?_ | refine Ext.drewN ?_ _ | refine Ext.alloc ?_ _ | exact Ext.refl _ | exact X_w1.out | (refine Ext.setCell ?_ ?_ _; rotate_left; (focus ((try simp); try omega)))))⟩
theorem guard_Reset_state (lo hi wa ri ba bs cn il qu fa r : Int) (dr : Bool) (h : GVal lo hi wa ri ba bs cn il qu fa) (hf : fa = 0) (w : World) :
    Calls Try.prog 30 #[.agg #[.int .i64 lo, .int .i64 hi, .int .i64 wa, .int .i64 ri, .int .i64 ba, .int .i64 bs, .int .i64 cn, .int .i64 il, .int .i64 qu, .int .i64 fa, .bool dr], .int .i64 r] w fun e w' => e = .returned (.tuple #[.agg #[.int .i64 0, .int .i64 0, .int .i64 0, .int .i64 0, .int .i64 0, .int .i64 0, .int .i64 0, .int .i64 0, .int .i64 0, .int .i64 0, .bool false], .int .i64 14]) ∧ Ext w w' := by
  have c1 := Lib.hid fun w => guard_GValid lo hi wa ri ba bs cn il qu fa dr true (by rw [decide_eq_true h]) w
  have d0 := beq_t hf
  clear h hf
  go_enter Try.func30, Try.ntmps30
  go_wp2_with fail
  refine (c1.out _).mono ?_; rintro e w1 ⟨rfl, x_w1⟩
  obtain ⟨k_w1, f_w1⟩ := bcell x_w1
  have s_w1 := x_w1.size; (try simp at s_w1)
  have z0_w1 : w.heap.size < w1.heap.size := by omega
  have z1_w1 : w.heap.size + 1 < w1.heap.size := by omega
  have q0_w1 : w1.cell? ⟨w.heap.size, 0, none⟩ = some (.int .i64 lo) := by rw [k_w1 _ _ (by first | omega | (simp; done) | (simp; omega))]; go_simp
  have q1_w1 : w1.cell? ⟨w.heap.size, 1, none⟩ = some (.int .i64 hi) := by rw [k_w1 _ _ (by first | omega | (simp; done) | (simp; omega))]; go_simp
  have q2_w1 : w1.cell? ⟨w.heap.size, 2, none⟩ = some (.int .i64 wa) := by rw [k_w1 _ _ (by first | omega | (simp; done) | (simp; omega))]; go_simp
  have q3_w1 : w1.cell? ⟨w.heap.size, 3, none⟩ = some (.int .i64 ri) := by rw [k_w1 _ _ (by first | omega | (simp; done) | (simp; omega))]; go_simp
  have q4_w1 : w1.cell? ⟨w.heap.size, 4, none⟩ = some (.int .i64 ba) := by rw [k_w1 _ _ (by first | omega | (simp; done) | (simp; omega))]; go_simp
  have q5_w1 : w1.cell? ⟨w.heap.size, 5, none⟩ = some (.int .i64 bs) := by rw [k_w1 _ _ (by first | omega | (simp; done) | (simp; omega))]; go_simp
  have q6_w1 : w1.cell? ⟨w.heap.size, 6, none⟩ = some (.int .i64 cn) := by rw [k_w1 _ _ (by first | omega | (simp; done) | (simp; omega))]; go_simp
  have q7_w1 : w1.cell? ⟨w.heap.size, 7, none⟩ = some (.int .i64 il) := by rw [k_w1 _ _ (by first | omega | (simp; done) | (simp; omega))]; go_simp
  have q8_w1 : w1.cell? ⟨w.heap.size, 8, none⟩ = some (.int .i64 qu) := by rw [k_w1 _ _ (by first | omega | (simp; done) | (simp; omega))]; go_simp
  have q9_w1 : w1.cell? ⟨w.heap.size, 9, none⟩ = some (.int .i64 fa) := by rw [k_w1 _ _ (by first | omega | (simp; done) | (simp; omega))]; go_simp
  have q10_w1 : w1.cell? ⟨w.heap.size, 10, none⟩ = some (.bool dr) := by rw [k_w1 _ _ (by first | omega | (simp; done) | (simp; omega))]; go_simp
  have X_w1 := Lib.hid (show Ext w w1 from Ext.trans (by (repeat' (with_reducible first | refine Ext.drew ?_ | refine Ext.drewN ?_ _ | refine Ext.alloc ?_ _ | exact Ext.refl _ | fail | (refine Ext.setCell ?_ ?_ _; rotate_left; (focus ((try simp); try omega)))))) x_w1)
  clear x_w1 s_w1
  go_wp2_with fail
  exact bodyPost_ret (v := .tuple #[.agg #[.int .i64 0, .int .i64 0, .int .i64 0, .int .i64 0, .int .i64 0, .int .i64 0, .int .i64 0, .int .i64 0, .int .i64 0, .int .i64 0, .bool false], .int .i64 14]) (by simp [results, Try.results30, go_sem, *]) rfl ⟨rfl, by (repeat' (with_reducible first | refine Ext.drew ?_ | refine Ext.drewN ?_ _ | refine Ext.alloc ?_ _ | exact Ext.refl _ | exact X_w1.out | (refine Ext.setCell ?_ ?_ _; rotate_left; (focus ((try simp); try omega)))))⟩
theorem guard_Reset_cold (lo hi wa ri ba bs cn il qu fa r : Int) (dr : Bool) (h : GVal lo hi wa ri ba bs cn il qu fa) (hf : fa ≠ 0) (r0 : r < lo) (w : World) :
    Calls Try.prog 30 #[.agg #[.int .i64 lo, .int .i64 hi, .int .i64 wa, .int .i64 ri, .int .i64 ba, .int .i64 bs, .int .i64 cn, .int .i64 il, .int .i64 qu, .int .i64 fa, .bool dr], .int .i64 r] w fun e w' => e = .returned (.tuple #[.agg #[.int .i64 0, .int .i64 0, .int .i64 0, .int .i64 0, .int .i64 0, .int .i64 0, .int .i64 0, .int .i64 0, .int .i64 0, .int .i64 0, .bool false], .int .i64 16]) ∧ Ext w w' := by
  have c1 := Lib.hid fun w => guard_GValid lo hi wa ri ba bs cn il qu fa dr true (by rw [decide_eq_true h]) w
  have d0 := beq_f hf
  have d1 := dlt_t r0
  clear h hf r0
  go_enter Try.func30, Try.ntmps30
  go_wp2_with fail
  refine (c1.out _).mono ?_; rintro e w1 ⟨rfl, x_w1⟩
  obtain ⟨k_w1, f_w1⟩ := bcell x_w1
  have s_w1 := x_w1.size; (try simp at s_w1)
  have z0_w1 : w.heap.size < w1.heap.size := by omega
  have z1_w1 : w.heap.size + 1 < w1.heap.size := by omega
  have q0_w1 : w1.cell? ⟨w.heap.size, 0, none⟩ = some (.int .i64 lo) := by rw [k_w1 _ _ (by first | omega | (simp; done) | (simp; omega))]; go_simp
  have q1_w1 : w1.cell? ⟨w.heap.size, 1, none⟩ = some (.int .i64 hi) := by rw [k_w1 _ _ (by first | omega | (simp; done) | (simp; omega))]; go_simp
  have q2_w1 : w1.cell? ⟨w.heap.size, 2, none⟩ = some (.int .i64 wa) := by rw [k_w1 _ _ (by first | omega | (simp; done) | (simp; omega))]; go_simp
  have q3_w1 : w1.cell? ⟨w.heap.size, 3, none⟩ = some (.int .i64 ri) := by rw [k_w1 _ _ (by first | omega | (simp; done) | (simp; omega))]; go_simp
  have q4_w1 : w1.cell? ⟨w.heap.size, 4, none⟩ = some (.int .i64 ba) := by rw [k_w1 _ _ (by first | omega | (simp; done) | (simp; omega))]; go_simp
  have q5_w1 : w1.cell? ⟨w.heap.size, 5, none⟩ = some (.int .i64 bs) := by rw [k_w1 _ _ (by first | omega | (simp; done) | (simp; omega))]; go_simp
  have q6_w1 : w1.cell? ⟨w.heap.size, 6, none⟩ = some (.int .i64 cn) := by rw [k_w1 _ _ (by first | omega | (simp; done) | (simp; omega))]; go_simp
  have q7_w1 : w1.cell? ⟨w.heap.size, 7, none⟩ = some (.int .i64 il) := by rw [k_w1 _ _ (by first | omega | (simp; done) | (simp; omega))]; go_simp
  have q8_w1 : w1.cell? ⟨w.heap.size, 8, none⟩ = some (.int .i64 qu) := by rw [k_w1 _ _ (by first | omega | (simp; done) | (simp; omega))]; go_simp
  have q9_w1 : w1.cell? ⟨w.heap.size, 9, none⟩ = some (.int .i64 fa) := by rw [k_w1 _ _ (by first | omega | (simp; done) | (simp; omega))]; go_simp
  have q10_w1 : w1.cell? ⟨w.heap.size, 10, none⟩ = some (.bool dr) := by rw [k_w1 _ _ (by first | omega | (simp; done) | (simp; omega))]; go_simp
  have X_w1 := Lib.hid (show Ext w w1 from Ext.trans (by (repeat' (with_reducible first | refine Ext.drew ?_ | refine Ext.drewN ?_ _ | refine Ext.alloc ?_ _ | exact Ext.refl _ | fail | (refine Ext.setCell ?_ ?_ _; rotate_left; (focus ((try simp); try omega)))))) x_w1)
  clear x_w1 s_w1
  go_wp2_with fail
  exact bodyPost_ret (v := .tuple #[.agg #[.int .i64 0, .int .i64 0, .int .i64 0, .int .i64 0, .int .i64 0, .int .i64 0, .int .i64 0, .int .i64 0, .int .i64 0, .int .i64 0, .bool false], .int .i64 16]) (by simp [results, Try.results30, go_sem, *]) rfl ⟨rfl, by (repeat' (with_reducible first | refine Ext.drew ?_ | refine Ext.drewN ?_ _ | refine Ext.alloc ?_ _ | exact Ext.refl _ | exact X_w1.out | (refine Ext.setCell ?_ ?_ _; rotate_left; (focus ((try simp); try omega)))))⟩
theorem guard_Reset_hot (lo hi wa ri ba bs cn il qu fa r : Int) (dr : Bool) (h : GVal lo hi wa ri ba bs cn il qu fa) (hf : fa ≠ 0) (r0 : lo ≤ r) (r1 : hi < r) (w : World) :
    Calls Try.prog 30 #[.agg #[.int .i64 lo, .int .i64 hi, .int .i64 wa, .int .i64 ri, .int .i64 ba, .int .i64 bs, .int .i64 cn, .int .i64 il, .int .i64 qu, .int .i64 fa, .bool dr], .int .i64 r] w fun e w' => e = .returned (.tuple #[.agg #[.int .i64 0, .int .i64 0, .int .i64 0, .int .i64 0, .int .i64 0, .int .i64 0, .int .i64 0, .int .i64 0, .int .i64 0, .int .i64 0, .bool false], .int .i64 16]) ∧ Ext w w' := by
  have c1 := Lib.hid fun w => guard_GValid lo hi wa ri ba bs cn il qu fa dr true (by rw [decide_eq_true h]) w
  have d0 := beq_f hf
  have d1 := dlt_f r0
  have d2 := dlt_t r1
  clear h hf r0 r1
  go_enter Try.func30, Try.ntmps30
  go_wp2_with fail
  refine (c1.out _).mono ?_; rintro e w1 ⟨rfl, x_w1⟩
  obtain ⟨k_w1, f_w1⟩ := bcell x_w1
  have s_w1 := x_w1.size; (try simp at s_w1)
  have z0_w1 : w.heap.size < w1.heap.size := by omega
  have z1_w1 : w.heap.size + 1 < w1.heap.size := by omega
  have q0_w1 : w1.cell? ⟨w.heap.size, 0, none⟩ = some (.int .i64 lo) := by rw [k_w1 _ _ (by first | omega | (simp; done) | (simp; omega))]; go_simp
  have q1_w1 : w1.cell? ⟨w.heap.size, 1, none⟩ = some (.int .i64 hi) := by rw [k_w1 _ _ (by first | omega | (simp; done) | (simp; omega))]; go_simp
  have q2_w1 : w1.cell? ⟨w.heap.size, 2, none⟩ = some (.int .i64 wa) := by rw [k_w1 _ _ (by first | omega | (simp; done) | (simp; omega))]; go_simp
  have q3_w1 : w1.cell? ⟨w.heap.size, 3, none⟩ = some (.int .i64 ri) := by rw [k_w1 _ _ (by first | omega | (simp; done) | (simp; omega))]; go_simp
  have q4_w1 : w1.cell? ⟨w.heap.size, 4, none⟩ = some (.int .i64 ba) := by rw [k_w1 _ _ (by first | omega | (simp; done) | (simp; omega))]; go_simp
  have q5_w1 : w1.cell? ⟨w.heap.size, 5, none⟩ = some (.int .i64 bs) := by rw [k_w1 _ _ (by first | omega | (simp; done) | (simp; omega))]; go_simp
  have q6_w1 : w1.cell? ⟨w.heap.size, 6, none⟩ = some (.int .i64 cn) := by rw [k_w1 _ _ (by first | omega | (simp; done) | (simp; omega))]; go_simp
  have q7_w1 : w1.cell? ⟨w.heap.size, 7, none⟩ = some (.int .i64 il) := by rw [k_w1 _ _ (by first | omega | (simp; done) | (simp; omega))]; go_simp
  have q8_w1 : w1.cell? ⟨w.heap.size, 8, none⟩ = some (.int .i64 qu) := by rw [k_w1 _ _ (by first | omega | (simp; done) | (simp; omega))]; go_simp
  have q9_w1 : w1.cell? ⟨w.heap.size, 9, none⟩ = some (.int .i64 fa) := by rw [k_w1 _ _ (by first | omega | (simp; done) | (simp; omega))]; go_simp
  have q10_w1 : w1.cell? ⟨w.heap.size, 10, none⟩ = some (.bool dr) := by rw [k_w1 _ _ (by first | omega | (simp; done) | (simp; omega))]; go_simp
  have X_w1 := Lib.hid (show Ext w w1 from Ext.trans (by (repeat' (with_reducible first | refine Ext.drew ?_ | refine Ext.drewN ?_ _ | refine Ext.alloc ?_ _ | exact Ext.refl _ | fail | (refine Ext.setCell ?_ ?_ _; rotate_left; (focus ((try simp); try omega)))))) x_w1)
  clear x_w1 s_w1
  go_wp2_with fail
  exact bodyPost_ret (v := .tuple #[.agg #[.int .i64 0, .int .i64 0, .int .i64 0, .int .i64 0, .int .i64 0, .int .i64 0, .int .i64 0, .int .i64 0, .int .i64 0, .int .i64 0, .bool false], .int .i64 16]) (by simp [results, Try.results30, go_sem, *]) rfl ⟨rfl, by (repeat' (with_reducible first | refine Ext.drew ?_ | refine Ext.drewN ?_ _ | refine Ext.alloc ?_ _ | exact Ext.refl _ | exact X_w1.out | (refine Ext.setCell ?_ ?_ _; rotate_left; (focus ((try simp); try omega)))))⟩
theorem guard_Reset_ok (lo hi wa ri ba bs cn il qu fa r : Int) (dr : Bool) (h : GVal lo hi wa ri ba bs cn il qu fa) (hf : fa ≠ 0) (r0 : lo ≤ r) (r1 : r ≤ hi) (w : World) :
    Calls Try.prog 30 #[.agg #[.int .i64 lo, .int .i64 hi, .int .i64 wa, .int .i64 ri, .int .i64 ba, .int .i64 bs, .int .i64 cn, .int .i64 il, .int .i64 qu, .int .i64 fa, .bool dr], .int .i64 r] w fun e w' => e = .returned (.tuple #[.agg #[.int .i64 lo, .int .i64 hi, .int .i64 wa, .int .i64 ri, .int .i64 ba, .int .i64 r, .int .i64 0, .int .i64 il, .int .i64 0, .int .i64 0, .bool dr], .int .i64 0]) ∧ Ext w w' := by
  have c1 := Lib.hid fun w => guard_GValid lo hi wa ri ba bs cn il qu fa dr true (by rw [decide_eq_true h]) w
  have d0 := beq_f hf
  have d1 := dlt_f r0
  have d2 := dlt_f r1
  clear h hf r0 r1
  go_enter Try.func30, Try.ntmps30
  go_wp2_with fail
  refine (c1.out _).mono ?_; rintro e w1 ⟨rfl, x_w1⟩
  obtain ⟨k_w1, f_w1⟩ := bcell x_w1
  have s_w1 := x_w1.size; (try simp at s_w1)
  have z0_w1 : w.heap.size < w1.heap.size := by omega
  have z1_w1 : w.heap.size + 1 < w1.heap.size := by omega
  have q0_w1 : w1.cell? ⟨w.heap.size, 0, none⟩ = some (.int .i64 lo) := by rw [k_w1 _ _ (by first | omega | (simp; done) | (simp; omega))]; go_simp
  have q1_w1 : w1.cell? ⟨w.heap.size, 1, none⟩ = some (.int .i64 hi) := by rw [k_w1 _ _ (by first | omega | (simp; done) | (simp; omega))]; go_simp
  have q2_w1 : w1.cell? ⟨w.heap.size, 2, none⟩ = some (.int .i64 wa) := by rw [k_w1 _ _ (by first | omega | (simp; done) | (simp; omega))]; go_simp
  have q3_w1 : w1.cell? ⟨w.heap.size, 3, none⟩ = some (.int .i64 ri) := by rw [k_w1 _ _ (by first | omega | (simp; done) | (simp; omega))]; go_simp
  have q4_w1 : w1.cell? ⟨w.heap.size, 4, none⟩ = some (.int .i64 ba) := by rw [k_w1 _ _ (by first | omega | (simp; done) | (simp; omega))]; go_simp
  have q5_w1 : w1.cell? ⟨w.heap.size, 5, none⟩ = some (.int .i64 bs) := by rw [k_w1 _ _ (by first | omega | (simp; done) | (simp; omega))]; go_simp
  have q6_w1 : w1.cell? ⟨w.heap.size, 6, none⟩ = some (.int .i64 cn) := by rw [k_w1 _ _ (by first | omega | (simp; done) | (simp; omega))]; go_simp
  have q7_w1 : w1.cell? ⟨w.heap.size, 7, none⟩ = some (.int .i64 il) := by rw [k_w1 _ _ (by first | omega | (simp; done) | (simp; omega))]; go_simp
  have q8_w1 : w1.cell? ⟨w.heap.size, 8, none⟩ = some (.int .i64 qu) := by rw [k_w1 _ _ (by first | omega | (simp; done) | (simp; omega))]; go_simp
  have q9_w1 : w1.cell? ⟨w.heap.size, 9, none⟩ = some (.int .i64 fa) := by rw [k_w1 _ _ (by first | omega | (simp; done) | (simp; omega))]; go_simp
  have q10_w1 : w1.cell? ⟨w.heap.size, 10, none⟩ = some (.bool dr) := by rw [k_w1 _ _ (by first | omega | (simp; done) | (simp; omega))]; go_simp
  have X_w1 := Lib.hid (show Ext w w1 from Ext.trans (by (repeat' (with_reducible first | refine Ext.drew ?_ | refine Ext.drewN ?_ _ | refine Ext.alloc ?_ _ | exact Ext.refl _ | fail | (refine Ext.setCell ?_ ?_ _; rotate_left; (focus ((try simp); try omega)))))) x_w1)
  clear x_w1 s_w1
  go_wp2_with fail
  refine ((guard_rebased lo hi wa ri ba bs cn il 0 0 r dr _)).mono ?_; rintro e w3 ⟨rfl, x_w3⟩
  obtain ⟨k_w3, f_w3⟩ := bcell x_w3
  have s_w3 := x_w3.size; (try simp at s_w3)
  have z0_w3 : w.heap.size + 1 < w3.heap.size := by omega
  have X_w3 := Lib.hid (show Ext w w3 from Ext.trans (by (repeat' (with_reducible first | refine Ext.drew ?_ | refine Ext.drewN ?_ _ | refine Ext.alloc ?_ _ | exact Ext.refl _ | exact X_w1.out | (refine Ext.setCell ?_ ?_ _; rotate_left; (focus ((try simp); try omega)))))) x_w3)
  clear x_w3 s_w3
  go_wp2_with fail
  exact bodyPost_ret (v := .tuple #[.agg #[.int .i64 lo, .int .i64 hi, .int .i64 wa, .int .i64 ri, .int .i64 ba, .int .i64 r, .int .i64 0, .int .i64 il, .int .i64 0, .int .i64 0, .bool dr], .int .i64 0]) (by simp [results, Try.results30, go_sem, *]) rfl ⟨rfl, by (repeat' (with_reducible first | refine Ext.drew ?_ | refine Ext.drewN ?_ _ | refine Ext.alloc ?_ _ | exact Ext.refl _ | exact X_w3.out | exact X_w1.out | (refine Ext.setCell ?_ ?_ _; rotate_left; (focus ((try simp); try omega)))))⟩
theorem additiveref50_Touch_ok (lo hi wa ri ba bs cn il qu fa : Int) (dr : Bool) (h : GVal lo hi wa ri ba bs cn il qu fa) (w : World) :
    Calls Try.prog 33 #[.agg #[.int .i64 lo, .int .i64 hi, .int .i64 wa, .int .i64 ri, .int .i64 ba, .int .i64 bs, .int .i64 cn, .int .i64 il, .int .i64 qu, .int .i64 fa, .bool dr]] w fun e w' => e = .returned (.agg #[.int .i64 lo, .int .i64 hi, .int .i64 wa, .int .i64 ri, .int .i64 ba, .int .i64 bs, .int .i64 cn, .int .i64 il, .int .i64 0, .int .i64 fa, .bool dr]) ∧ Ext w w' := by
  have c1 := Lib.hid fun w => ref_GValid lo hi wa ri ba bs cn il qu fa dr true (by rw [decide_eq_true h]) w
  clear h
  go_enter Try.func33, Try.ntmps33
  go_wp2_with fail
  refine (c1.out _).mono ?_; rintro e w1 ⟨rfl, x_w1⟩
  obtain ⟨k_w1, f_w1⟩ := bcell x_w1
  have s_w1 := x_w1.size; (try simp at s_w1)
  have z0_w1 : w.heap.size < w1.heap.size := by omega
  have z1_w1 : w.heap.size + 1 < w1.heap.size := by omega
  have q0_w1 : w1.cell? ⟨w.heap.size, 0, none⟩ = some (.int .i64 lo) := by rw [k_w1 _ _ (by first | omega | (simp; done) | (simp; omega))]; go_simp
  have q1_w1 : w1.cell? ⟨w.heap.size, 1, none⟩ = some (.int .i64 hi) := by rw [k_w1 _ _ (by first | omega | (simp; done) | (simp; omega))]; go_simp
  have q2_w1 : w1.cell? ⟨w.heap.size, 2, none⟩ = some (.int .i64 wa) := by rw [k_w1 _ _ (by first | omega | (simp; done) | (simp; omega))]; go_simp
  have q3_w1 : w1.cell? ⟨w.heap.size, 3, none⟩ = some (.int .i64 ri) := by rw [k_w1 _ _ (by first | omega | (simp; done) | (simp; omega))]; go_simp
  have q4_w1 : w1.cell? ⟨w.heap.size, 4, none⟩ = some (.int .i64 ba) := by rw [k_w1 _ _ (by first | omega | (simp; done) | (simp; omega))]; go_simp
  have q5_w1 : w1.cell? ⟨w.heap.size, 5, none⟩ = some (.int .i64 bs) := by rw [k_w1 _ _ (by first | omega | (simp; done) | (simp; omega))]; go_simp
  have q6_w1 : w1.cell? ⟨w.heap.size, 6, none⟩ = some (.int .i64 cn) := by rw [k_w1 _ _ (by first | omega | (simp; done) | (simp; omega))]; go_simp
  have q7_w1 : w1.cell? ⟨w.heap.size, 7, none⟩ = some (.int .i64 il) := by rw [k_w1 _ _ (by first | omega | (simp; done) | (simp; omega))]; go_simp
  have q8_w1 : w1.cell? ⟨w.heap.size, 8, none⟩ = some (.int .i64 qu) := by rw [k_w1 _ _ (by first | omega | (simp; done) | (simp; omega))]; go_simp
  have q9_w1 : w1.cell? ⟨w.heap.size, 9, none⟩ = some (.int .i64 fa) := by rw [k_w1 _ _ (by first | omega | (simp; done) | (simp; omega))]; go_simp
  have q10_w1 : w1.cell? ⟨w.heap.size, 10, none⟩ = some (.bool dr) := by rw [k_w1 _ _ (by first | omega | (simp; done) | (simp; omega))]; go_simp
  have X_w1 := Lib.hid (show Ext w w1 from Ext.trans (by (repeat' (with_reducible first | refine Ext.drew ?_ | refine Ext.drewN ?_ _ | refine Ext.alloc ?_ _ | exact Ext.refl _ | fail | (refine Ext.setCell ?_ ?_ _; rotate_left; (focus ((try simp); try omega)))))) x_w1)
  clear x_w1 s_w1
  go_wp2_with fail
  exact bodyPost_ret (v := .agg #[.int .i64 lo, .int .i64 hi, .int .i64 wa, .int .i64 ri, .int .i64 ba, .int .i64 bs, .int .i64 cn, .int .i64 il, .int .i64 0, .int .i64 fa, .bool dr]) (by simp [results, Try.results33, go_sem, *]) rfl ⟨rfl, by (repeat' (with_reducible first | refine Ext.drew ?_ | refine Ext.drewN ?_ _ | refine Ext.alloc ?_ _ | exact Ext.refl _ | exact X_w1.out | (refine Ext.setCell ?_ ?_ _; rotate_left; (focus ((try simp); try omega)))))⟩
theorem additiveref50_Touch_no (lo hi wa ri ba bs cn il qu fa : Int) (dr : Bool) (h : ¬ GVal lo hi wa ri ba bs cn il qu fa) (w : World) :
    Calls Try.prog 33 #[.agg #[.int .i64 lo, .int .i64 hi, .int .i64 wa, .int .i64 ri, .int .i64 ba, .int .i64 bs, .int .i64 cn, .int .i64 il, .int .i64 qu, .int .i64 fa, .bool dr]] w fun e w' => e = .returned (.agg #[.int .i64 lo, .int .i64 hi, .int .i64 wa, .int .i64 ri, .int .i64 ba, .int .i64 bs, .int .i64 cn, .int .i64 il, .int .i64 qu, .int .i64 fa, .bool dr]) ∧ Ext w w' := by
  have c1 := Lib.hid fun w => ref_GValid lo hi wa ri ba bs cn il qu fa dr false (by rw [decide_eq_false h]) w
  clear h
  go_enter Try.func33, Try.ntmps33
  go_wp2_with fail
  refine (c1.out _).mono ?_; rintro e w1 ⟨rfl, x_w1⟩
  obtain ⟨k_w1, f_w1⟩ := bcell x_w1
  have s_w1 := x_w1.size; (try simp at s_w1)
  have z0_w1 : w.heap.size < w1.heap.size := by omega
  have z1_w1 : w.heap.size + 1 < w1.heap.size := by omega
  have q0_w1 : w1.cell? ⟨w.heap.size, 0, none⟩ = some (.int .i64 lo) := by rw [k_w1 _ _ (by first | omega | (simp; done) | (simp; omega))]; go_simp
  have q1_w1 : w1.cell? ⟨w.heap.size, 1, none⟩ = some (.int .i64 hi) := by rw [k_w1 _ _ (by first | omega | (simp; done) | (simp; omega))]; go_simp
  have q2_w1 : w1.cell? ⟨w.heap.size, 2, none⟩ = some (.int .i64 wa) := by rw [k_w1 _ _ (by first | omega | (simp; done) | (simp; omega))]; go_simp
  have q3_w1 : w1.cell? ⟨w.heap.size, 3, none⟩ = some (.int .i64 ri) := by rw [k_w1 _ _ (by first | omega | (simp; done) | (simp; omega))]; go_simp
  have q4_w1 : w1.cell? ⟨w.heap.size, 4, none⟩ = some (.int .i64 ba) := by rw [k_w1 _ _ (by first | omega | (simp; done) | (simp; omega))]; go_simp
  have q5_w1 : w1.cell? ⟨w.heap.size, 5, none⟩ = some (.int .i64 bs) := by rw [k_w1 _ _ (by first | omega | (simp; done) | (simp; omega))]; go_simp
  have q6_w1 : w1.cell? ⟨w.heap.size, 6, none⟩ = some (.int .i64 cn) := by rw [k_w1 _ _ (by first | omega | (simp; done) | (simp; omega))]; go_simp
  have q7_w1 : w1.cell? ⟨w.heap.size, 7, none⟩ = some (.int .i64 il) := by rw [k_w1 _ _ (by first | omega | (simp; done) | (simp; omega))]; go_simp
  have q8_w1 : w1.cell? ⟨w.heap.size, 8, none⟩ = some (.int .i64 qu) := by rw [k_w1 _ _ (by first | omega | (simp; done) | (simp; omega))]; go_simp
  have q9_w1 : w1.cell? ⟨w.heap.size, 9, none⟩ = some (.int .i64 fa) := by rw [k_w1 _ _ (by first | omega | (simp; done) | (simp; omega))]; go_simp
  have q10_w1 : w1.cell? ⟨w.heap.size, 10, none⟩ = some (.bool dr) := by rw [k_w1 _ _ (by first | omega | (simp; done) | (simp; omega))]; go_simp
  have X_w1 := Lib.hid (show Ext w w1 from Ext.trans (by (repeat' (with_reducible first | refine Ext.drew ?_ | refine Ext.drewN ?_ _ | refine Ext.alloc ?_ _ | exact Ext.refl _ | fail | (refine Ext.setCell ?_ ?_ _; rotate_left; (focus ((try simp); try omega)))))) x_w1)
  clear x_w1 s_w1
  go_wp2_with fail
  exact bodyPost_ret (v := .agg #[.int .i64 lo, .int .i64 hi, .int .i64 wa, .int .i64 ri, .int .i64 ba, .int .i64 bs, .int .i64 cn, .int .i64 il, .int .i64 qu, .int .i64 fa, .bool dr]) (by simp [results, Try.results33, go_sem, *]) rfl ⟨rfl, by (repeat' (with_reducible first | refine Ext.drew ?_ | refine Ext.drewN ?_ _ | refine Ext.alloc ?_ _ | exact Ext.refl _ | exact X_w1.out | (refine Ext.setCell ?_ ?_ _; rotate_left; (focus ((try simp); try omega)))))⟩
theorem additiveref50_Door_ok (lo hi wa ri ba bs cn il qu fa : Int) (dr : Bool) (x : Bool) (h : GVal lo hi wa ri ba bs cn il qu fa) (w : World) :
    Calls Try.prog 35 #[.agg #[.int .i64 lo, .int .i64 hi, .int .i64 wa, .int .i64 ri, .int .i64 ba, .int .i64 bs, .int .i64 cn, .int .i64 il, .int .i64 qu, .int .i64 fa, .bool dr], .bool x] w fun e w' => e = .returned (.agg #[.int .i64 lo, .int .i64 hi, .int .i64 wa, .int .i64 ri, .int .i64 ba, .int .i64 bs, .int .i64 cn, .int .i64 il, .int .i64 qu, .int .i64 fa, .bool x]) ∧ Ext w w' := by
  have c1 := Lib.hid fun w => ref_GValid lo hi wa ri ba bs cn il qu fa dr true (by rw [decide_eq_true h]) w
  clear h
  go_enter Try.func35, Try.ntmps35
  go_wp2_with fail
  refine (c1.out _).mono ?_; rintro e w1 ⟨rfl, x_w1⟩
  obtain ⟨k_w1, f_w1⟩ := bcell x_w1
  have s_w1 := x_w1.size; (try simp at s_w1)
  have z0_w1 : w.heap.size < w1.heap.size := by omega
  have z1_w1 : w.heap.size + 1 < w1.heap.size := by omega
  have q0_w1 : w1.cell? ⟨w.heap.size, 0, none⟩ = some (.int .i64 lo) := by rw [k_w1 _ _ (by first | omega | (simp; done) | (simp; omega))]; go_simp
  have q1_w1 : w1.cell? ⟨w.heap.size, 1, none⟩ = some (.int .i64 hi) := by rw [k_w1 _ _ (by first | omega | (simp; done) | (simp; omega))]; go_simp
  have q2_w1 : w1.cell? ⟨w.heap.size, 2, none⟩ = some (.int .i64 wa) := by rw [k_w1 _ _ (by first | omega | (simp; done) | (simp; omega))]; go_simp
  have q3_w1 : w1.cell? ⟨w.heap.size, 3, none⟩ = some (.int .i64 ri) := by rw [k_w1 _ _ (by first | omega | (simp; done) | (simp; omega))]; go_simp
  have q4_w1 : w1.cell? ⟨w.heap.size, 4, none⟩ = some (.int .i64 ba) := by rw [k_w1 _ _ (by first | omega | (simp; done) | (simp; omega))]; go_simp
  have q5_w1 : w1.cell? ⟨w.heap.size, 5, none⟩ = some (.int .i64 bs) := by rw [k_w1 _ _ (by first | omega | (simp; done) | (simp; omega))]; go_simp
  have q6_w1 : w1.cell? ⟨w.heap.size, 6, none⟩ = some (.int .i64 cn) := by rw [k_w1 _ _ (by first | omega | (simp; done) | (simp; omega))]; go_simp
  have q7_w1 : w1.cell? ⟨w.heap.size, 7, none⟩ = some (.int .i64 il) := by rw [k_w1 _ _ (by first | omega | (simp; done) | (simp; omega))]; go_simp
  have q8_w1 : w1.cell? ⟨w.heap.size, 8, none⟩ = some (.int .i64 qu) := by rw [k_w1 _ _ (by first | omega | (simp; done) | (simp; omega))]; go_simp
  have q9_w1 : w1.cell? ⟨w.heap.size, 9, none⟩ = some (.int .i64 fa) := by rw [k_w1 _ _ (by first | omega | (simp; done) | (simp; omega))]; go_simp
  have q10_w1 : w1.cell? ⟨w.heap.size, 10, none⟩ = some (.bool dr) := by rw [k_w1 _ _ (by first | omega | (simp; done) | (simp; omega))]; go_simp
  have X_w1 := Lib.hid (show Ext w w1 from Ext.trans (by (repeat' (with_reducible first | refine Ext.drew ?_ | refine Ext.drewN ?_ _ | refine Ext.alloc ?_ _ | exact Ext.refl _ | fail | (refine Ext.setCell ?_ ?_ _; rotate_left; (focus ((try simp); try omega)))))) x_w1)
  clear x_w1 s_w1
  go_wp2_with fail
  exact bodyPost_ret (v := .agg #[.int .i64 lo, .int .i64 hi, .int .i64 wa, .int .i64 ri, .int .i64 ba, .int .i64 bs, .int .i64 cn, .int .i64 il, .int .i64 qu, .int .i64 fa, .bool x]) (by simp [results, Try.results35, go_sem, *]) rfl ⟨rfl, by (repeat' (with_reducible first | refine Ext.drew ?_ | refine Ext.drewN ?_ _ | refine Ext.alloc ?_ _ | exact Ext.refl _ | exact X_w1.out | (refine Ext.setCell ?_ ?_ _; rotate_left; (focus ((try simp); try omega)))))⟩
theorem additiveref50_Door_no (lo hi wa ri ba bs cn il qu fa : Int) (dr : Bool) (x : Bool) (h : ¬ GVal lo hi wa ri ba bs cn il qu fa) (w : World) :
    Calls Try.prog 35 #[.agg #[.int .i64 lo, .int .i64 hi, .int .i64 wa, .int .i64 ri, .int .i64 ba, .int .i64 bs, .int .i64 cn, .int .i64 il, .int .i64 qu, .int .i64 fa, .bool dr], .bool x] w fun e w' => e = .returned (.agg #[.int .i64 lo, .int .i64 hi, .int .i64 wa, .int .i64 ri, .int .i64 ba, .int .i64 bs, .int .i64 cn, .int .i64 il, .int .i64 qu, .int .i64 fa, .bool dr]) ∧ Ext w w' := by
  have c1 := Lib.hid fun w => ref_GValid lo hi wa ri ba bs cn il qu fa dr false (by rw [decide_eq_false h]) w
  clear h
  go_enter Try.func35, Try.ntmps35
  go_wp2_with fail
  refine (c1.out _).mono ?_; rintro e w1 ⟨rfl, x_w1⟩
  obtain ⟨k_w1, f_w1⟩ := bcell x_w1
  have s_w1 := x_w1.size; (try simp at s_w1)
  have z0_w1 : w.heap.size < w1.heap.size := by omega
  have z1_w1 : w.heap.size + 1 < w1.heap.size := by omega
  have q0_w1 : w1.cell? ⟨w.heap.size, 0, none⟩ = some (.int .i64 lo) := by rw [k_w1 _ _ (by first | omega | (simp; done) | (simp; omega))]; go_simp
  have q1_w1 : w1.cell? ⟨w.heap.size, 1, none⟩ = some (.int .i64 hi) := by rw [k_w1 _ _ (by first | omega | (simp; done) | (simp; omega))]; go_simp
  have q2_w1 : w1.cell? ⟨w.heap.size, 2, none⟩ = some (.int .i64 wa) := by rw [k_w1 _ _ (by first | omega | (simp; done) | (simp; omega))]; go_simp
  have q3_w1 : w1.cell? ⟨w.heap.size, 3, none⟩ = some (.int .i64 ri) := by rw [k_w1 _ _ (by first | omega | (simp; done) | (simp; omega))]; go_simp
  have q4_w1 : w1.cell? ⟨w.heap.size, 4, none⟩ = some (.int .i64 ba) := by rw [k_w1 _ _ (by first | omega | (simp; done) | (simp; omega))]; go_simp
  have q5_w1 : w1.cell? ⟨w.heap.size, 5, none⟩ = some (.int .i64 bs) := by rw [k_w1 _ _ (by first | omega | (simp; done) | (simp; omega))]; go_simp
  have q6_w1 : w1.cell? ⟨w.heap.size, 6, none⟩ = some (.int .i64 cn) := by rw [k_w1 _ _ (by first | omega | (simp; done) | (simp; omega))]; go_simp
  have q7_w1 : w1.cell? ⟨w.heap.size, 7, none⟩ = some (.int .i64 il) := by rw [k_w1 _ _ (by first | omega | (simp; done) | (simp; omega))]; go_simp
  have q8_w1 : w1.cell? ⟨w.heap.size, 8, none⟩ = some (.int .i64 qu) := by rw [k_w1 _ _ (by first | omega | (simp; done) | (simp; omega))]; go_simp
  have q9_w1 : w1.cell? ⟨w.heap.size, 9, none⟩ = some (.int .i64 fa) := by rw [k_w1 _ _ (by first | omega | (simp; done) | (simp; omega))]; go_simp
  have q10_w1 : w1.cell? ⟨w.heap.size, 10, none⟩ = some (.bool dr) := by rw [k_w1 _ _ (by first | omega | (simp; done) | (simp; omega))]; go_simp
  have X_w1 := Lib.hid (show Ext w w1 from Ext.trans (by (repeat' (with_reducible first | refine Ext.drew ?_ | refine Ext.drewN ?_ _ | refine Ext.alloc ?_ _ | exact Ext.refl _ | fail | (refine Ext.setCell ?_ ?_ _; rotate_left; (focus ((try simp); try omega)))))) x_w1)
  clear x_w1 s_w1
  go_wp2_with fail
  exact bodyPost_ret (v := .agg #[.int .i64 lo, .int .i64 hi, .int .i64 wa, .int .i64 ri, .int .i64 ba, .int .i64 bs, .int .i64 cn, .int .i64 il, .int .i64 qu, .int .i64 fa, .bool dr]) (by simp [results, Try.results35, go_sem, *]) rfl ⟨rfl, by (repeat' (with_reducible first | refine Ext.drew ?_ | refine Ext.drewN ?_ _ | refine Ext.alloc ?_ _ | exact Ext.refl _ | exact X_w1.out | (refine Ext.setCell ?_ ?_ _; rotate_left; (focus ((try simp); try omega)))))⟩
theorem additiveref50_Stop_ok (lo hi wa ri ba bs cn il qu fa : Int) (dr : Bool) (h : GVal lo hi wa ri ba bs cn il qu fa) (w : World) :
    Calls Try.prog 37 #[.agg #[.int .i64 lo, .int .i64 hi, .int .i64 wa, .int .i64 ri, .int .i64 ba, .int .i64 bs, .int .i64 cn, .int .i64 il, .int .i64 qu, .int .i64 fa, .bool dr]] w fun e w' => e = .returned (.agg #[.int .i64 lo, .int .i64 hi, .int .i64 wa, .int .i64 ri, .int .i64 ba, .int .i64 bs, .int .i64 cn, .int .i64 il, .int .i64 qu, .int .i64 4, .bool dr]) ∧ Ext w w' := by
  have c1 := Lib.hid fun w => ref_GValid lo hi wa ri ba bs cn il qu fa dr true (by rw [decide_eq_true h]) w
  clear h
  go_enter Try.func37, Try.ntmps37
  go_wp2_with fail
  refine (c1.out _).mono ?_; rintro e w1 ⟨rfl, x_w1⟩
  obtain ⟨k_w1, f_w1⟩ := bcell x_w1
  have s_w1 := x_w1.size; (try simp at s_w1)
  have z0_w1 : w.heap.size < w1.heap.size := by omega
  have z1_w1 : w.heap.size + 1 < w1.heap.size := by omega
  have q0_w1 : w1.cell? ⟨w.heap.size, 0, none⟩ = some (.int .i64 lo) := by rw [k_w1 _ _ (by first | omega | (simp; done) | (simp; omega))]; go_simp
  have q1_w1 : w1.cell? ⟨w.heap.size, 1, none⟩ = some (.int .i64 hi) := by rw [k_w1 _ _ (by first | omega | (simp; done) | (simp; omega))]; go_simp
  have q2_w1 : w1.cell? ⟨w.heap.size, 2, none⟩ = some (.int .i64 wa) := by rw [k_w1 _ _ (by first | omega | (simp; done) | (simp; omega))]; go_simp
  have q3_w1 : w1.cell? ⟨w.heap.size, 3, none⟩ = some (.int .i64 ri) := by rw [k_w1 _ _ (by first | omega | (simp; done) | (simp; omega))]; go_simp
  have q4_w1 : w1.cell? ⟨w.heap.size, 4, none⟩ = some (.int .i64 ba) := by rw [k_w1 _ _ (by first | omega | (simp; done) | (simp; omega))]; go_simp
  have q5_w1 : w1.cell? ⟨w.heap.size, 5, none⟩ = some (.int .i64 bs) := by rw [k_w1 _ _ (by first | omega | (simp; done) | (simp; omega))]; go_simp
  have q6_w1 : w1.cell? ⟨w.heap.size, 6, none⟩ = some (.int .i64 cn) := by rw [k_w1 _ _ (by first | omega | (simp; done) | (simp; omega))]; go_simp
  have q7_w1 : w1.cell? ⟨w.heap.size, 7, none⟩ = some (.int .i64 il) := by rw [k_w1 _ _ (by first | omega | (simp; done) | (simp; omega))]; go_simp
  have q8_w1 : w1.cell? ⟨w.heap.size, 8, none⟩ = some (.int .i64 qu) := by rw [k_w1 _ _ (by first | omega | (simp; done) | (simp; omega))]; go_simp
  have q9_w1 : w1.cell? ⟨w.heap.size, 9, none⟩ = some (.int .i64 fa) := by rw [k_w1 _ _ (by first | omega | (simp; done) | (simp; omega))]; go_simp
  have q10_w1 : w1.cell? ⟨w.heap.size, 10, none⟩ = some (.bool dr) := by rw [k_w1 _ _ (by first | omega | (simp; done) | (simp; omega))]; go_simp
  have X_w1 := Lib.hid (show Ext w w1 from Ext.trans (by (repeat' (with_reducible first | refine Ext.drew ?_ | refine Ext.drewN ?_ _ | refine Ext.alloc ?_ _ | exact Ext.refl _ | fail | (refine Ext.setCell ?_ ?_ _; rotate_left; (focus ((try simp); try omega)))))) x_w1)
  clear x_w1 s_w1
  go_wp2_with fail
  exact bodyPost_ret (v := .agg #[.int .i64 lo, .int .i64 hi, .int .i64 wa, .int .i64 ri, .int .i64 ba, .int .i64 bs, .int .i64 cn, .int .i64 il, .int .i64 qu, .int .i64 4, .bool dr]) (by simp [results, Try.results37, go_sem, *]) rfl ⟨rfl, by (repeat' (with_reducible first | refine Ext.drew ?_ | refine Ext.drewN ?_ _ | refine Ext.alloc ?_ _ | exact Ext.refl _ | exact X_w1.out | (refine Ext.setCell ?_ ?_ _; rotate_left; (focus ((try simp); try omega)))))⟩
theorem additiveref50_Stop_no (lo hi wa ri ba bs cn il qu fa : Int) (dr : Bool) (h : ¬ GVal lo hi wa ri ba bs cn il qu fa) (w : World) :
    Calls Try.prog 37 #[.agg #[.int .i64 lo, .int .i64 hi, .int .i64 wa, .int .i64 ri, .int .i64 ba, .int .i64 bs, .int .i64 cn, .int .i64 il, .int .i64 qu, .int .i64 fa, .bool dr]] w fun e w' => e = .returned (.agg #[.int .i64 lo, .int .i64 hi, .int .i64 wa, .int .i64 ri, .int .i64 ba, .int .i64 bs, .int .i64 cn, .int .i64 il, .int .i64 qu, .int .i64 fa, .bool dr]) ∧ Ext w w' := by
  have c1 := Lib.hid fun w => ref_GValid lo hi wa ri ba bs cn il qu fa dr false (by rw [decide_eq_false h]) w
  clear h
  go_enter Try.func37, Try.ntmps37
  go_wp2_with fail
  refine (c1.out _).mono ?_; rintro e w1 ⟨rfl, x_w1⟩
  obtain ⟨k_w1, f_w1⟩ := bcell x_w1
  have s_w1 := x_w1.size; (try simp at s_w1)
  have z0_w1 : w.heap.size < w1.heap.size := by omega
  have z1_w1 : w.heap.size + 1 < w1.heap.size := by omega
  have q0_w1 : w1.cell? ⟨w.heap.size, 0, none⟩ = some (.int .i64 lo) := by rw [k_w1 _ _ (by first | omega | (simp; done) | (simp; omega))]; go_simp
  have q1_w1 : w1.cell? ⟨w.heap.size, 1, none⟩ = some (.int .i64 hi) := by rw [k_w1 _ _ (by first | omega | (simp; done) | (simp; omega))]; go_simp
  have q2_w1 : w1.cell? ⟨w.heap.size, 2, none⟩ = some (.int .i64 wa) := by rw [k_w1 _ _ (by first | omega | (simp; done) | (simp; omega))]; go_simp
  have q3_w1 : w1.cell? ⟨w.heap.size, 3, none⟩ = some (.int .i64 ri) := by rw [k_w1 _ _ (by first | omega | (simp; done) | (simp; omega))]; go_simp
  have q4_w1 : w1.cell? ⟨w.heap.size, 4, none⟩ = some (.int .i64 ba) := by rw [k_w1 _ _ (by first | omega | (simp; done) | (simp; omega))]; go_simp
  have q5_w1 : w1.cell? ⟨w.heap.size, 5, none⟩ = some (.int .i64 bs) := by rw [k_w1 _ _ (by first | omega | (simp; done) | (simp; omega))]; go_simp
  have q6_w1 : w1.cell? ⟨w.heap.size, 6, none⟩ = some (.int .i64 cn) := by rw [k_w1 _ _ (by first | omega | (simp; done) | (simp; omega))]; go_simp
  have q7_w1 : w1.cell? ⟨w.heap.size, 7, none⟩ = some (.int .i64 il) := by rw [k_w1 _ _ (by first | omega | (simp; done) | (simp; omega))]; go_simp
  have q8_w1 : w1.cell? ⟨w.heap.size, 8, none⟩ = some (.int .i64 qu) := by rw [k_w1 _ _ (by first | omega | (simp; done) | (simp; omega))]; go_simp
  have q9_w1 : w1.cell? ⟨w.heap.size, 9, none⟩ = some (.int .i64 fa) := by rw [k_w1 _ _ (by first | omega | (simp; done) | (simp; omega))]; go_simp
  have q10_w1 : w1.cell? ⟨w.heap.size, 10, none⟩ = some (.bool dr) := by rw [k_w1 _ _ (by first | omega | (simp; done) | (simp; omega))]; go_simp
  have X_w1 := Lib.hid (show Ext w w1 from Ext.trans (by (repeat' (with_reducible first | refine Ext.drew ?_ | refine Ext.drewN ?_ _ | refine Ext.alloc ?_ _ | exact Ext.refl _ | fail | (refine Ext.setCell ?_ ?_ _; rotate_left; (focus ((try simp); try omega)))))) x_w1)
  clear x_w1 s_w1
  go_wp2_with fail
  exact bodyPost_ret (v := .agg #[.int .i64 lo, .int .i64 hi, .int .i64 wa, .int .i64 ri, .int .i64 ba, .int .i64 bs, .int .i64 cn, .int .i64 il, .int .i64 qu, .int .i64 fa, .bool dr]) (by simp [results, Try.results37, go_sem, *]) rfl ⟨rfl, by (repeat' (with_reducible first | refine Ext.drew ?_ | refine Ext.drewN ?_ _ | refine Ext.alloc ?_ _ | exact Ext.refl _ | exact X_w1.out | (refine Ext.setCell ?_ ?_ _; rotate_left; (focus ((try simp); try omega)))))⟩
theorem additiveref50_Reset_arg (lo hi wa ri ba bs cn il qu fa r : Int) (dr : Bool) (h : ¬ GVal lo hi wa ri ba bs cn il qu fa) (w : World) :
    Calls Try.prog 31 #[.agg #[.int .i64 lo, .int .i64 hi, .int .i64 wa, .int .i64 ri, .int .i64 ba, .int .i64 bs, .int .i64 cn, .int .i64 il, .int .i64 qu, .int .i64 fa, .bool dr], .int .i64 r] w fun e w' => e = .returned (.tuple #[.agg #[.int .i64 0, .int .i64 0, .int .i64 0, .int .i64 0, .int .i64 0, .int .i64 0, .int .i64 0, .int .i64 0, .int .i64 0, .int .i64 0, .bool false], .int .i64 1]) ∧ Ext w w' := by
  have c1 := Lib.hid fun w => ref_GValid lo hi wa ri ba bs cn il qu fa dr false (by rw [decide_eq_false h]) w
  clear h
  go_enter Try.func31, Try.ntmps31
  go_wp2_with fail
  refine (c1.out _).mono ?_; rintro e w1 ⟨rfl, x_w1⟩
  obtain ⟨k_w1, f_w1⟩ := bcell x_w1
  have s_w1 := x_w1.size; (try simp at s_w1)
  have z0_w1 : w.heap.size < w1.heap.size := by omega
  have z1_w1 : w.heap.size + 1 < w1.heap.size := by omega
  have q0_w1 : w1.cell? ⟨w.heap.size, 0, none⟩ = some (.int .i64 lo) := by rw [k_w1 _ _ (by first | omega | (simp; done) | (simp; omega))]; go_simp
  have q1_w1 : w1.cell? ⟨w.heap.size, 1, none⟩ = some (.int .i64 hi) := by rw [k_w1 _ _ (by first | omega | (simp; done) | (simp; omega))]; go_simp
  have q2_w1 : w1.cell? ⟨w.heap.size, 2, none⟩ = some (.int .i64 wa) := by rw [k_w1 _ _ (by first | omega | (simp; done) | (simp; omega))]; go_simp
  have q3_w1 : w1.cell? ⟨w.heap.size, 3, none⟩ = some (.int .i64 ri) := by rw [k_w1 _ _ (by first | omega | (simp; done) | (simp; omega))]; go_simp
  have q4_w1 : w1.cell? ⟨w.heap.size, 4, none⟩ = some (.int .i64 ba) := by rw [k_w1 _ _ (by first | omega | (simp; done) | (simp; omega))]; go_simp
  have q5_w1 : w1.cell? ⟨w.heap.size, 5, none⟩ = some (.int .i64 bs) := by rw [k_w1 _ _ (by first | omega | (simp; done) | (simp; omega))]; go_simp
  have q6_w1 : w1.cell? ⟨w.heap.size, 6, none⟩ = some (.int .i64 cn) := by rw [k_w1 _ _ (by first | omega | (simp; done) | (simp; omega))]; go_simp
  have q7_w1 : w1.cell? ⟨w.heap.size, 7, none⟩ = some (.int .i64 il) := by rw [k_w1 _ _ (by first | omega | (simp; done) | (simp; omega))]; go_simp
  have q8_w1 : w1.cell? ⟨w.heap.size, 8, none⟩ = some (.int .i64 qu) := by rw [k_w1 _ _ (by first | omega | (simp; done) | (simp; omega))]; go_simp
  have q9_w1 : w1.cell? ⟨w.heap.size, 9, none⟩ = some (.int .i64 fa) := by rw [k_w1 _ _ (by first | omega | (simp; done) | (simp; omega))]; go_simp
  have q10_w1 : w1.cell? ⟨w.heap.size, 10, none⟩ = some (.bool dr) := by rw [k_w1 _ _ (by first | omega | (simp; done) | (simp; omega))]; go_simp
  have X_w1 := Lib.hid (show Ext w w1 from Ext.trans (by (repeat' (with_reducible first | refine Ext.drew ?_ | refine Ext.drewN ?_ _ | refine Ext.alloc ?_ _ | exact Ext.refl _ | fail | (refine Ext.setCell ?_ ?_ _; rotate_left; (focus ((try simp); try omega)))))) x_w1)
  clear x_w1 s_w1
  go_wp2_with fail
  exact bodyPost_ret (v := .tuple #[.agg #[.int .i64 0, .int .i64 0, .int .i64 0, .int .i64 0, .int .i64 0, .int .i64 0, .int .i64 0, .int .i64 0, .int .i64 0, .int .i64 0, .bool false], .int .i64 1]) (by simp [results, Try.results31, go_sem, *]) rfl ⟨rfl, by (repeat' (with_reducible first | refine Ext.drew ?_ | refine Ext.drewN ?_ _ | refine Ext.alloc ?_ _ | exact Ext.refl _ | exact X_w1.out | (refine Ext.setCell ?_ ?_ _; rotate_left; (focus ((try simp); try omega)))))⟩
theorem additiveref50_Reset_state (lo hi wa ri ba bs cn il qu fa r : Int) (dr : Bool) (h : GVal lo hi wa ri ba bs cn il qu fa) (hf : fa = 0) (w : World) :
    Calls Try.prog 31 #[.agg #[.int .i64 lo, .int .i64 hi, .int .i64 wa, .int .i64 ri, .int .i64 ba, .int .i64 bs, .int .i64 cn, .int .i64 il, .int .i64 qu, .int .i64 fa, .bool dr], .int .i64 r] w fun e w' => e = .returned (.tuple #[.agg #[.int .i64 0, .int .i64 0, .int .i64 0, .int .i64 0, .int .i64 0, .int .i64 0, .int .i64 0, .int .i64 0, .int .i64 0, .int .i64 0, .bool false], .int .i64 14]) ∧ Ext w w' := by
  have c1 := Lib.hid fun w => ref_GValid lo hi wa ri ba bs cn il qu fa dr true (by rw [decide_eq_true h]) w
  have d0 := beq_t hf
  clear h hf
  go_enter Try.func31, Try.ntmps31
  go_wp2_with fail
  refine (c1.out _).mono ?_; rintro e w1 ⟨rfl, x_w1⟩
  obtain ⟨k_w1, f_w1⟩ := bcell x_w1
  have s_w1 := x_w1.size; (try simp at s_w1)
  have z0_w1 : w.heap.size < w1.heap.size := by omega
  have z1_w1 : w.heap.size + 1 < w1.heap.size := by omega
  have q0_w1 : w1.cell? ⟨w.heap.size, 0, none⟩ = some (.int .i64 lo) := by rw [k_w1 _ _ (by first | omega | (simp; done) | (simp; omega))]; go_simp
  have q1_w1 : w1.cell? ⟨w.heap.size, 1, none⟩ = some (.int .i64 hi) := by rw [k_w1 _ _ (by first | omega | (simp; done) | (simp; omega))]; go_simp
  have q2_w1 : w1.cell? ⟨w.heap.size, 2, none⟩ = some (.int .i64 wa) := by rw [k_w1 _ _ (by first | omega | (simp; done) | (simp; omega))]; go_simp
  have q3_w1 : w1.cell? ⟨w.heap.size, 3, none⟩ = some (.int .i64 ri) := by rw [k_w1 _ _ (by first | omega | (simp; done) | (simp; omega))]; go_simp
  have q4_w1 : w1.cell? ⟨w.heap.size, 4, none⟩ = some (.int .i64 ba) := by rw [k_w1 _ _ (by first | omega | (simp; done) | (simp; omega))]; go_simp
  have q5_w1 : w1.cell? ⟨w.heap.size, 5, none⟩ = some (.int .i64 bs) := by rw [k_w1 _ _ (by first | omega | (simp; done) | (simp; omega))]; go_simp
  have q6_w1 : w1.cell? ⟨w.heap.size, 6, none⟩ = some (.int .i64 cn) := by rw [k_w1 _ _ (by first | omega | (simp; done) | (simp; omega))]; go_simp
  have q7_w1 : w1.cell? ⟨w.heap.size, 7, none⟩ = some (.int .i64 il) := by rw [k_w1 _ _ (by first | omega | (simp; done) | (simp; omega))]; go_simp
  have q8_w1 : w1.cell? ⟨w.heap.size, 8, none⟩ = some (.int .i64 qu) := by rw [k_w1 _ _ (by first | omega | (simp; done) | (simp; omega))]; go_simp
  have q9_w1 : w1.cell? ⟨w.heap.size, 9, none⟩ = some (.int .i64 fa) := by rw [k_w1 _ _ (by first | omega | (simp; done) | (simp; omega))]; go_simp
  have q10_w1 : w1.cell? ⟨w.heap.size, 10, none⟩ = some (.bool dr) := by rw [k_w1 _ _ (by first | omega | (simp; done) | (simp; omega))]; go_simp
  have X_w1 := Lib.hid (show Ext w w1 from Ext.trans (by (repeat' (with_reducible first | refine Ext.drew ?_ | refine Ext.drewN ?_ _ | refine Ext.alloc ?_ _ | exact Ext.refl _ | fail | (refine Ext.setCell ?_ ?_ _; rotate_left; (focus ((try simp); try omega)))))) x_w1)
  clear x_w1 s_w1
  go_wp2_with fail
  exact bodyPost_ret (v := .tuple #[.agg #[.int .i64 0, .int .i64 0, .int .i64 0, .int .i64 0, .int .i64 0, .int .i64 0, .int .i64 0, .int .i64 0, .int .i64 0, .int .i64 0, .bool false], .int .i64 14]) (by simp [results, Try.results31, go_sem, *]) rfl ⟨rfl, by (repeat' (with_reducible first | refine Ext.drew ?_ | refine Ext.drewN ?_ _ | refine Ext.alloc ?_ _ | exact Ext.refl _ | exact X_w1.out | (refine Ext.setCell ?_ ?_ _; rotate_left; (focus ((try simp); try omega)))))⟩
theorem additiveref50_Reset_cold (lo hi wa ri ba bs cn il qu fa r : Int) (dr : Bool) (h : GVal lo hi wa ri ba bs cn il qu fa) (hf : fa ≠ 0) (r0 : r < lo) (w : World) :
    Calls Try.prog 31 #[.agg #[.int .i64 lo, .int .i64 hi, .int .i64 wa, .int .i64 ri, .int .i64 ba, .int .i64 bs, .int .i64 cn, .int .i64 il, .int .i64 qu, .int .i64 fa, .bool dr], .int .i64 r] w fun e w' => e = .returned (.tuple #[.agg #[.int .i64 0, .int .i64 0, .int .i64 0, .int .i64 0, .int .i64 0, .int .i64 0, .int .i64 0, .int .i64 0, .int .i64 0, .int .i64 0, .bool false], .int .i64 16]) ∧ Ext w w' := by
  have c1 := Lib.hid fun w => ref_GValid lo hi wa ri ba bs cn il qu fa dr true (by rw [decide_eq_true h]) w
  have d0 := beq_f hf
  have d1 := dlt_t r0
  clear h hf r0
  go_enter Try.func31, Try.ntmps31
  go_wp2_with fail
  refine (c1.out _).mono ?_; rintro e w1 ⟨rfl, x_w1⟩
  obtain ⟨k_w1, f_w1⟩ := bcell x_w1
  have s_w1 := x_w1.size; (try simp at s_w1)
  have z0_w1 : w.heap.size < w1.heap.size := by omega
  have z1_w1 : w.heap.size + 1 < w1.heap.size := by omega
  have q0_w1 : w1.cell? ⟨w.heap.size, 0, none⟩ = some (.int .i64 lo) := by rw [k_w1 _ _ (by first | omega | (simp; done) | (simp; omega))]; go_simp
  have q1_w1 : w1.cell? ⟨w.heap.size, 1, none⟩ = some (.int .i64 hi) := by rw [k_w1 _ _ (by first | omega | (simp; done) | (simp; omega))]; go_simp
  have q2_w1 : w1.cell? ⟨w.heap.size, 2, none⟩ = some (.int .i64 wa) := by rw [k_w1 _ _ (by first | omega | (simp; done) | (simp; omega))]; go_simp
  have q3_w1 : w1.cell? ⟨w.heap.size, 3, none⟩ = some (.int .i64 ri) := by rw [k_w1 _ _ (by first | omega | (simp; done) | (simp; omega))]; go_simp
  have q4_w1 : w1.cell? ⟨w.heap.size, 4, none⟩ = some (.int .i64 ba) := by rw [k_w1 _ _ (by first | omega | (simp; done) | (simp; omega))]; go_simp
  have q5_w1 : w1.cell? ⟨w.heap.size, 5, none⟩ = some (.int .i64 bs) := by rw [k_w1 _ _ (by first | omega | (simp; done) | (simp; omega))]; go_simp
  have q6_w1 : w1.cell? ⟨w.heap.size, 6, none⟩ = some (.int .i64 cn) := by rw [k_w1 _ _ (by first | omega | (simp; done) | (simp; omega))]; go_simp
  have q7_w1 : w1.cell? ⟨w.heap.size, 7, none⟩ = some (.int .i64 il) := by rw [k_w1 _ _ (by first | omega | (simp; done) | (simp; omega))]; go_simp
  have q8_w1 : w1.cell? ⟨w.heap.size, 8, none⟩ = some (.int .i64 qu) := by rw [k_w1 _ _ (by first | omega | (simp; done) | (simp; omega))]; go_simp
  have q9_w1 : w1.cell? ⟨w.heap.size, 9, none⟩ = some (.int .i64 fa) := by rw [k_w1 _ _ (by first | omega | (simp; done) | (simp; omega))]; go_simp
  have q10_w1 : w1.cell? ⟨w.heap.size, 10, none⟩ = some (.bool dr) := by rw [k_w1 _ _ (by first | omega | (simp; done) | (simp; omega))]; go_simp
  have X_w1 := Lib.hid (show Ext w w1 from Ext.trans (by (repeat' (with_reducible first | refine Ext.drew ?_ | refine Ext.drewN ?_ _ | refine Ext.alloc ?_ _ | exact Ext.refl _ | fail | (refine Ext.setCell ?_ ?_ _; rotate_left; (focus ((try simp); try omega)))))) x_w1)
  clear x_w1 s_w1
  go_wp2_with fail
  exact bodyPost_ret (v := .tuple #[.agg #[.int .i64 0, .int .i64 0, .int .i64 0, .int .i64 0, .int .i64 0, .int .i64 0, .int .i64 0, .int .i64 0, .int .i64 0, .int .i64 0, .bool false], .int .i64 16]) (by simp [results, Try.results31, go_sem, *]) rfl ⟨rfl, by (repeat' (with_reducible first | refine Ext.drew ?_ | refine Ext.drewN ?_ _ | refine Ext.alloc ?_ _ | exact Ext.refl _ | exact X_w1.out | (refine Ext.setCell ?_ ?_ _; rotate_left; (focus ((try simp); try omega)))))⟩
theorem additiveref50_Reset_hot (lo hi wa ri ba bs cn il qu fa r : Int) (dr : Bool) (h : GVal lo hi wa ri ba bs cn il qu fa) (hf : fa ≠ 0) (r0 : lo ≤ r) (r1 : hi < r) (w : World) :
    Calls Try.prog 31 #[.agg #[.int .i64 lo, .int .i64 hi, .int .i64 wa, .int .i64 ri, .int .i64 ba, .int .i64 bs, .int .i64 cn, .int .i64 il, .int .i64 qu, .int .i64 fa, .bool dr], .int .i64 r] w fun e w' => e = .returned (.tuple #[.agg #[.int .i64 0, .int .i64 0, .int .i64 0, .int .i64 0, .int .i64 0, .int .i64 0, .int .i64 0, .int .i64 0, .int .i64 0, .int .i64 0, .bool false], .int .i64 16]) ∧ Ext w w' := by
  have c1 := Lib.hid fun w => ref_GValid lo hi wa ri ba bs cn il qu fa dr true (by rw [decide_eq_true h]) w
  have d0 := beq_f hf
  have d1 := dlt_f r0
  have d2 := dlt_t r1
  clear h hf r0 r1
  go_enter Try.func31, Try.ntmps31
  go_wp2_with fail
  refine (c1.out _).mono ?_; rintro e w1 ⟨rfl, x_w1⟩
  obtain ⟨k_w1, f_w1⟩ := bcell x_w1
  have s_w1 := x_w1.size; (try simp at s_w1)
  have z0_w1 : w.heap.size < w1.heap.size := by omega
  have z1_w1 : w.heap.size + 1 < w1.heap.size := by omega
  have q0_w1 : w1.cell? ⟨w.heap.size, 0, none⟩ = some (.int .i64 lo) := by rw [k_w1 _ _ (by first | omega | (simp; done) | (simp; omega))]; go_simp
  have q1_w1 : w1.cell? ⟨w.heap.size, 1, none⟩ = some (.int .i64 hi) := by rw [k_w1 _ _ (by first | omega | (simp; done) | (simp; omega))]; go_simp
  have q2_w1 : w1.cell? ⟨w.heap.size, 2, none⟩ = some (.int .i64 wa) := by rw [k_w1 _ _ (by first | omega | (simp; done) | (simp; omega))]; go_simp
  have q3_w1 : w1.cell? ⟨w.heap.size, 3, none⟩ = some (.int .i64 ri) := by rw [k_w1 _ _ (by first | omega | (simp; done) | (simp; omega))]; go_simp
  have q4_w1 : w1.cell? ⟨w.heap.size, 4, none⟩ = some (.int .i64 ba) := by rw [k_w1 _ _ (by first | omega | (simp; done) | (simp; omega))]; go_simp
  have q5_w1 : w1.cell? ⟨w.heap.size, 5, none⟩ = some (.int .i64 bs) := by rw [k_w1 _ _ (by first | omega | (simp; done) | (simp; omega))]; go_simp
  have q6_w1 : w1.cell? ⟨w.heap.size, 6, none⟩ = some (.int .i64 cn) := by rw [k_w1 _ _ (by first | omega | (simp; done) | (simp; omega))]; go_simp
  have q7_w1 : w1.cell? ⟨w.heap.size, 7, none⟩ = some (.int .i64 il) := by rw [k_w1 _ _ (by first | omega | (simp; done) | (simp; omega))]; go_simp
  have q8_w1 : w1.cell? ⟨w.heap.size, 8, none⟩ = some (.int .i64 qu) := by rw [k_w1 _ _ (by first | omega | (simp; done) | (simp; omega))]; go_simp
  have q9_w1 : w1.cell? ⟨w.heap.size, 9, none⟩ = some (.int .i64 fa) := by rw [k_w1 _ _ (by first | omega | (simp; done) | (simp; omega))]; go_simp
  have q10_w1 : w1.cell? ⟨w.heap.size, 10, none⟩ = some (.bool dr) := by rw [k_w1 _ _ (by first | omega | (simp; done) | (simp; omega))]; go_simp
  have X_w1 := Lib.hid (show Ext w w1 from Ext.trans (by (repeat' (with_reducible first | refine Ext.drew ?_ | refine Ext.drewN ?_ _ | refine Ext.alloc ?_ _ | exact Ext.refl _ | fail | (refine Ext.setCell ?_ ?_ _; rotate_left; (focus ((try simp); try omega)))))) x_w1)
  clear x_w1 s_w1
  go_wp2_with fail
  exact bodyPost_ret (v := .tuple #[.agg #[.int .i64 0, .int .i64 0, .int .i64 0, .int .i64 0, .int .i64 0, .int .i64 0, .int .i64 0, .int .i64 0, .int .i64 0, .int .i64 0, .bool false], .int .i64 16]) (by simp [results, Try.results31, go_sem, *]) rfl ⟨rfl, by (repeat' (with_reducible first | refine Ext.drew ?_ | refine Ext.drewN ?_ _ | refine Ext.alloc ?_ _ | exact Ext.refl _ | exact X_w1.out | (refine Ext.setCell ?_ ?_ _; rotate_left; (focus ((try simp); try omega)))))⟩
theorem additiveref50_Reset_ok (lo hi wa ri ba bs cn il qu fa r : Int) (dr : Bool) (h : GVal lo hi wa ri ba bs cn il qu fa) (hf : fa ≠ 0) (r0 : lo ≤ r) (r1 : r ≤ hi) (w : World) :
    Calls Try.prog 31 #[.agg #[.int .i64 lo, .int .i64 hi, .int .i64 wa, .int .i64 ri, .int .i64 ba, .int .i64 bs, .int .i64 cn, .int .i64 il, .int .i64 qu, .int .i64 fa, .bool dr], .int .i64 r] w fun e w' => e = .returned (.tuple #[.agg #[.int .i64 lo, .int .i64 hi, .int .i64 wa, .int .i64 ri, .int .i64 ba, .int .i64 r, .int .i64 0, .int .i64 il, .int .i64 0, .int .i64 0, .bool dr], .int .i64 0]) ∧ Ext w w' := by
  have c1 := Lib.hid fun w => ref_GValid lo hi wa ri ba bs cn il qu fa dr true (by rw [decide_eq_true h]) w
  have d0 := beq_f hf
  have d1 := dlt_f r0
  have d2 := dlt_f r1
  clear h hf r0 r1
  go_enter Try.func31, Try.ntmps31
  go_wp2_with fail
  refine (c1.out _).mono ?_; rintro e w1 ⟨rfl, x_w1⟩
  obtain ⟨k_w1, f_w1⟩ := bcell x_w1
  have s_w1 := x_w1.size; (try simp at s_w1)
  have z0_w1 : w.heap.size < w1.heap.size := by omega
  have z1_w1 : w.heap.size + 1 < w1.heap.size := by omega
  have q0_w1 : w1.cell? ⟨w.heap.size, 0, none⟩ = some (.int .i64 lo) := by rw [k_w1 _ _ (by first | omega | (simp; done) | (simp; omega))]; go_simp
  have q1_w1 : w1.cell? ⟨w.heap.size, 1, none⟩ = some (.int .i64 hi) := by rw [k_w1 _ _ (by first | omega | (simp; done) | (simp; omega))]; go_simp
  have q2_w1 : w1.cell? ⟨w.heap.size, 2, none⟩ = some (.int .i64 wa) := by rw [k_w1 _ _ (by first | omega | (simp; done) | (simp; omega))]; go_simp
  have q3_w1 : w1.cell? ⟨w.heap.size, 3, none⟩ = some (.int .i64 ri) := by rw [k_w1 _ _ (by first | omega | (simp; done) | (simp; omega))]; go_simp
  have q4_w1 : w1.cell? ⟨w.heap.size, 4, none⟩ = some (.int .i64 ba) := by rw [k_w1 _ _ (by first | omega | (simp; done) | (simp; omega))]; go_simp
  have q5_w1 : w1.cell? ⟨w.heap.size, 5, none⟩ = some (.int .i64 bs) := by rw [k_w1 _ _ (by first | omega | (simp; done) | (simp; omega))]; go_simp
  have q6_w1 : w1.cell? ⟨w.heap.size, 6, none⟩ = some (.int .i64 cn) := by rw [k_w1 _ _ (by first | omega | (simp; done) | (simp; omega))]; go_simp
  have q7_w1 : w1.cell? ⟨w.heap.size, 7, none⟩ = some (.int .i64 il) := by rw [k_w1 _ _ (by first | omega | (simp; done) | (simp; omega))]; go_simp
  have q8_w1 : w1.cell? ⟨w.heap.size, 8, none⟩ = some (.int .i64 qu) := by rw [k_w1 _ _ (by first | omega | (simp; done) | (simp; omega))]; go_simp
  have q9_w1 : w1.cell? ⟨w.heap.size, 9, none⟩ = some (.int .i64 fa) := by rw [k_w1 _ _ (by first | omega | (simp; done) | (simp; omega))]; go_simp
  have q10_w1 : w1.cell? ⟨w.heap.size, 10, none⟩ = some (.bool dr) := by rw [k_w1 _ _ (by first | omega | (simp; done) | (simp; omega))]; go_simp
  have X_w1 := Lib.hid (show Ext w w1 from Ext.trans (by (repeat' (with_reducible first | refine Ext.drew ?_ | refine Ext.drewN ?_ _ | refine Ext.alloc ?_ _ | exact Ext.refl _ | fail | (refine Ext.setCell ?_ ?_ _; rotate_left; (focus ((try simp); try omega)))))) x_w1)
  clear x_w1 s_w1
  go_wp2_with fail
  exact bodyPost_ret (v := .tuple #[.agg #[.int .i64 lo, .int .i64 hi, .int .i64 wa, .int .i64 ri, .int .i64 ba, .int .i64 r, .int .i64 0, .int .i64 il, .int .i64 0, .int .i64 0, .bool dr], .int .i64 0]) (by simp [results, Try.results31, go_sem, *]) rfl ⟨rfl, by (repeat' (with_reducible first | refine Ext.drew ?_ | refine Ext.drewN ?_ _ | refine Ext.alloc ?_ _ | exact Ext.refl _ | exact X_w1.out | (refine Ext.setCell ?_ ?_ _; rotate_left; (focus ((try simp); try omega)))))⟩
end Go.Proofs.Ytnmjikaojoaaaaa

