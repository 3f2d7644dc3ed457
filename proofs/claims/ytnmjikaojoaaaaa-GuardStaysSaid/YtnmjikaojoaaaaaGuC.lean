/-
  Contracts of the document's own answers: Step of a guard.
-/
import Derived.Test.YtnmjikaojoaaaaaGuB
namespace Go.Proofs.Ytnmjikaojoaaaaa
open Go.RowKit
set_option maxHeartbeats 4000000 in
theorem additiveref50_Step_no (lo hi wa ri ba bs cn il qu fa r t d : Int) (dr : Bool) (h : ¬ GVal lo hi wa ri ba bs cn il qu fa) (w : World) :
    Calls Try.prog 26 #[.agg #[.int .i64 lo, .int .i64 hi, .int .i64 wa, .int .i64 ri, .int .i64 ba, .int .i64 bs, .int .i64 cn, .int .i64 il, .int .i64 qu, .int .i64 fa, .bool dr], .int .i64 r, .int .i64 t, .int .i64 d] w fun e w' => e = .returned (.tuple #[.agg #[.int .i64 lo, .int .i64 hi, .int .i64 wa, .int .i64 ri, .int .i64 ba, .int .i64 bs, .int .i64 cn, .int .i64 il, .int .i64 qu, .int .i64 fa, .bool dr], .int .i64 0]) ∧ Ext w w' := by
  have c1 := Lib.hid fun w => ref_GValid lo hi wa ri ba bs cn il qu fa dr false (by rw [decide_eq_false h]) w
  go_enter Try.func26, Try.ntmps26
  go_wp2_with fail
  refine (c1.out _).mono ?_; rintro e w1 ⟨rfl, x_w1⟩
  obtain ⟨k_w1, f_w1⟩ := bcell x_w1
  have s_w1 := x_w1.size; (try simp at s_w1)
  have z0_w1 : w.heap.size < w1.heap.size := by omega
  have z1_w1 : w.heap.size + 1 < w1.heap.size := by omega
  have X_w1 := Lib.hid (show Ext w w1 from Ext.trans (by (repeat' (with_reducible first | refine Ext.drew ?_ | refine Ext.drewN ?_ _ | refine Ext.alloc ?_ _ | exact Ext.refl _ | fail | (refine Ext.setCell ?_ ?_ _; rotate_left; (focus ((try simp); try omega)))))) x_w1)
  clear x_w1 s_w1
  go_wp2_with fail
  exact bodyPost_ret (v := .tuple #[.agg #[.int .i64 lo, .int .i64 hi, .int .i64 wa, .int .i64 ri, .int .i64 ba, .int .i64 bs, .int .i64 cn, .int .i64 il, .int .i64 qu, .int .i64 fa, .bool dr], .int .i64 0]) (by simp [results, Try.results26, go_sem, *]) rfl ⟨rfl, by (repeat' (with_reducible first | refine Ext.drew ?_ | refine Ext.drewN ?_ _ | refine Ext.alloc ?_ _ | exact Ext.refl _ | exact X_w1.out | (refine Ext.setCell ?_ ?_ _; rotate_left; (focus ((try simp); try omega)))))⟩
set_option maxHeartbeats 4000000 in
theorem additiveref50_Step_fault (lo hi wa ri ba bs cn il qu fa r t d : Int) (dr : Bool) (h : GVal lo hi wa ri ba bs cn il qu fa) (hf : fa ≠ 0) (w : World) :
    Calls Try.prog 26 #[.agg #[.int .i64 lo, .int .i64 hi, .int .i64 wa, .int .i64 ri, .int .i64 ba, .int .i64 bs, .int .i64 cn, .int .i64 il, .int .i64 qu, .int .i64 fa, .bool dr], .int .i64 r, .int .i64 t, .int .i64 d] w fun e w' => e = .returned (.tuple #[.agg #[.int .i64 lo, .int .i64 hi, .int .i64 wa, .int .i64 ri, .int .i64 ba, .int .i64 bs, .int .i64 cn, .int .i64 il, .int .i64 qu, .int .i64 fa, .bool dr], .int .i64 0]) ∧ Ext w w' := by
  have c1 := Lib.hid fun w => ref_GValid lo hi wa ri ba bs cn il qu fa dr true (by rw [decide_eq_true h]) w
  have d0 := bne_t hf
  clear h hf
  go_enter Try.func26, Try.ntmps26
  go_wp2_with fail
  refine (c1.out _).mono ?_; rintro e w1 ⟨rfl, x_w1⟩
  obtain ⟨k_w1, f_w1⟩ := bcell x_w1
  have s_w1 := x_w1.size; (try simp at s_w1)
  have z0_w1 : w.heap.size < w1.heap.size := by omega
  have z1_w1 : w.heap.size + 1 < w1.heap.size := by omega
  have q0_w1 : w1.cell? ⟨w.heap.size, 0, none⟩ = some (.int .i64 lo) := by rw [k_w1 _ _ (by first | omega | (simp; done) | (simp; omega))]; go_simp
  have q1_w1 : w1.cell? ⟨w.heap.size, 1, none⟩ = some (.int .i64 hi) := by rw [k_w1 _ _ (by first | omega | (simp; done) | (simp; omega))]; go_simp
  have q2_w1 : w1.cell? ⟨w.heap.size, 2, none⟩ = some (.int .i64 wa) := by rw [k_w1 _ _ (by first | omega | (simp; done) | (simp; omega))]; go_simp
  have q3_w1 : w1.cell? ⟨w.heap.size, 3, none⟩ = some (.int .i64 ri) := by rw [k_w1 _ _ (by first | omega | (simp; done) | (simp; omega))]; go_simp
  have q4_w1 : w1.cell? ⟨w.heap.size, 4, none⟩ = some (.int .i64 ba) := by rw [k_w1 _ _ (by first | omega | (simp; done) | (simp; omega))]; go_simp
  have q5_w1 : w1.cell? ⟨w.heap.size, 5, none⟩ = some (.int .i64 bs) := by rw [k_w1 _ _ (by first | omega | (simp; done) | (simp; omega))]; go_simp
  have q6_w1 : w1.cell? ⟨w.heap.size, 6, none⟩ = some (.int .i64 cn) := by rw [k_w1 _ _ (by first | omega | (simp; done) | (simp; omega))]; go_simp
  have q7_w1 : w1.cell? ⟨w.heap.size, 7, none⟩ = some (.int .i64 il) := by rw [k_w1 _ _ (by first | omega | (simp; done) | (simp; omega))]; go_simp
  have q8_w1 : w1.cell? ⟨w.heap.size, 8, none⟩ = some (.int .i64 qu) := by rw [k_w1 _ _ (by first | omega | (simp; done) | (simp; omega))]; go_simp
  have q9_w1 : w1.cell? ⟨w.heap.size, 9, none⟩ = some (.int .i64 fa) := by rw [k_w1 _ _ (by first | omega | (simp; done) | (simp; omega))]; go_simp
  have q10_w1 : w1.cell? ⟨w.heap.size, 10, none⟩ = some (.bool dr) := by rw [k_w1 _ _ (by first | omega | (simp; done) | (simp; omega))]; go_simp
  have X_w1 := Lib.hid (show Ext w w1 from Ext.trans (by (repeat' (with_reducible first | refine Ext.drew ?_ | refine Ext.drewN ?_ _ | refine Ext.alloc ?_ _ | exact Ext.refl _ | fail | (refine Ext.setCell ?_ ?_ _; rotate_left; (focus ((try simp); try omega)))))) x_w1)
  clear x_w1 s_w1
  go_wp2_with fail
  exact bodyPost_ret (v := .tuple #[.agg #[.int .i64 lo, .int .i64 hi, .int .i64 wa, .int .i64 ri, .int .i64 ba, .int .i64 bs, .int .i64 cn, .int .i64 il, .int .i64 qu, .int .i64 fa, .bool dr], .int .i64 0]) (by simp [results, Try.results26, go_sem, *]) rfl ⟨rfl, by (repeat' (with_reducible first | refine Ext.drew ?_ | refine Ext.drewN ?_ _ | refine Ext.alloc ?_ _ | exact Ext.refl _ | exact X_w1.out | (refine Ext.setCell ?_ ?_ _; rotate_left; (focus ((try simp); try omega)))))⟩
set_option maxHeartbeats 4000000 in
theorem additiveref50_Step_cold (lo hi wa ri ba bs cn il qu r t d : Int) (dr : Bool) (h : GVal lo hi wa ri ba bs cn il qu 0) (r0 : r < lo) (w : World) :
    Calls Try.prog 26 #[.agg #[.int .i64 lo, .int .i64 hi, .int .i64 wa, .int .i64 ri, .int .i64 ba, .int .i64 bs, .int .i64 cn, .int .i64 il, .int .i64 qu, .int .i64 0, .bool dr], .int .i64 r, .int .i64 t, .int .i64 d] w fun e w' => e = .returned (.tuple #[.agg #[.int .i64 lo, .int .i64 hi, .int .i64 wa, .int .i64 ri, .int .i64 ba, .int .i64 bs, .int .i64 cn, .int .i64 il, .int .i64 qu, .int .i64 1, .bool dr], .int .i64 0]) ∧ Ext w w' := by
  have c1 := Lib.hid fun w => ref_GValid lo hi wa ri ba bs cn il qu 0 dr true (by rw [decide_eq_true h]) w
  have d1 := dlt_t r0
  clear h r0
  go_enter Try.func26, Try.ntmps26
  go_wp2_with fail
  refine (c1.out _).mono ?_; rintro e w1 ⟨rfl, x_w1⟩
  obtain ⟨k_w1, f_w1⟩ := bcell x_w1
  have s_w1 := x_w1.size; (try simp at s_w1)
  have z0_w1 : w.heap.size < w1.heap.size := by omega
  have z1_w1 : w.heap.size + 1 < w1.heap.size := by omega
  have q0_w1 : w1.cell? ⟨w.heap.size, 0, none⟩ = some (.int .i64 lo) := by rw [k_w1 _ _ (by first | omega | (simp; done) | (simp; omega))]; go_simp
  have q1_w1 : w1.cell? ⟨w.heap.size, 1, none⟩ = some (.int .i64 hi) := by rw [k_w1 _ _ (by first | omega | (simp; done) | (simp; omega))]; go_simp
  have q2_w1 : w1.cell? ⟨w.heap.size, 2, none⟩ = some (.int .i64 wa) := by rw [k_w1 _ _ (by first | omega | (simp; done) | (simp; omega))]; go_simp
  have q3_w1 : w1.cell? ⟨w.heap.size, 3, none⟩ = some (.int .i64 ri) := by rw [k_w1 _ _ (by first | omega | (simp; done) | (simp; omega))]; go_simp
  have q4_w1 : w1.cell? ⟨w.heap.size, 4, none⟩ = some (.int .i64 ba) := by rw [k_w1 _ _ (by first | omega | (simp; done) | (simp; omega))]; go_simp
  have q5_w1 : w1.cell? ⟨w.heap.size, 5, none⟩ = some (.int .i64 bs) := by rw [k_w1 _ _ (by first | omega | (simp; done) | (simp; omega))]; go_simp
  have q6_w1 : w1.cell? ⟨w.heap.size, 6, none⟩ = some (.int .i64 cn) := by rw [k_w1 _ _ (by first | omega | (simp; done) | (simp; omega))]; go_simp
  have q7_w1 : w1.cell? ⟨w.heap.size, 7, none⟩ = some (.int .i64 il) := by rw [k_w1 _ _ (by first | omega | (simp; done) | (simp; omega))]; go_simp
  have q8_w1 : w1.cell? ⟨w.heap.size, 8, none⟩ = some (.int .i64 qu) := by rw [k_w1 _ _ (by first | omega | (simp; done) | (simp; omega))]; go_simp
  have q9_w1 : w1.cell? ⟨w.heap.size, 9, none⟩ = some (.int .i64 0) := by rw [k_w1 _ _ (by first | omega | (simp; done) | (simp; omega))]; go_simp
  have q10_w1 : w1.cell? ⟨w.heap.size, 10, none⟩ = some (.bool dr) := by rw [k_w1 _ _ (by first | omega | (simp; done) | (simp; omega))]; go_simp
  have X_w1 := Lib.hid (show Ext w w1 from Ext.trans (by (repeat' (with_reducible first | refine Ext.drew ?_ | refine Ext.drewN ?_ _ | refine Ext.alloc ?_ _ | exact Ext.refl _ | fail | (refine Ext.setCell ?_ ?_ _; rotate_left; (focus ((try simp); try omega)))))) x_w1)
  clear x_w1 s_w1
  go_wp2_with fail
  exact bodyPost_ret (v := .tuple #[.agg #[.int .i64 lo, .int .i64 hi, .int .i64 wa, .int .i64 ri, .int .i64 ba, .int .i64 bs, .int .i64 cn, .int .i64 il, .int .i64 qu, .int .i64 1, .bool dr], .int .i64 0]) (by simp [results, Try.results26, go_sem, *]) rfl ⟨rfl, by (repeat' (with_reducible first | refine Ext.drew ?_ | refine Ext.drewN ?_ _ | refine Ext.alloc ?_ _ | exact Ext.refl _ | exact X_w1.out | (refine Ext.setCell ?_ ?_ _; rotate_left; (focus ((try simp); try omega)))))⟩
set_option maxHeartbeats 4000000 in
theorem additiveref50_Step_hot (lo hi wa ri ba bs cn il qu r t d : Int) (dr : Bool) (h : GVal lo hi wa ri ba bs cn il qu 0) (r0 : lo ≤ r) (r1 : hi < r) (w : World) :
    Calls Try.prog 26 #[.agg #[.int .i64 lo, .int .i64 hi, .int .i64 wa, .int .i64 ri, .int .i64 ba, .int .i64 bs, .int .i64 cn, .int .i64 il, .int .i64 qu, .int .i64 0, .bool dr], .int .i64 r, .int .i64 t, .int .i64 d] w fun e w' => e = .returned (.tuple #[.agg #[.int .i64 lo, .int .i64 hi, .int .i64 wa, .int .i64 ri, .int .i64 ba, .int .i64 bs, .int .i64 cn, .int .i64 il, .int .i64 qu, .int .i64 2, .bool dr], .int .i64 0]) ∧ Ext w w' := by
  have c1 := Lib.hid fun w => ref_GValid lo hi wa ri ba bs cn il qu 0 dr true (by rw [decide_eq_true h]) w
  have d1 := dlt_f r0
  have d2 := dlt_t r1
  clear h r0 r1
  go_enter Try.func26, Try.ntmps26
  go_wp2_with fail
  refine (c1.out _).mono ?_; rintro e w1 ⟨rfl, x_w1⟩
  obtain ⟨k_w1, f_w1⟩ := bcell x_w1
  have s_w1 := x_w1.size; (try simp at s_w1)
  have z0_w1 : w.heap.size < w1.heap.size := by omega
  have z1_w1 : w.heap.size + 1 < w1.heap.size := by omega
  have q0_w1 : w1.cell? ⟨w.heap.size, 0, none⟩ = some (.int .i64 lo) := by rw [k_w1 _ _ (by first | omega | (simp; done) | (simp; omega))]; go_simp
  have q1_w1 : w1.cell? ⟨w.heap.size, 1, none⟩ = some (.int .i64 hi) := by rw [k_w1 _ _ (by first | omega | (simp; done) | (simp; omega))]; go_simp
  have q2_w1 : w1.cell? ⟨w.heap.size, 2, none⟩ = some (.int .i64 wa) := by rw [k_w1 _ _ (by first | omega | (simp; done) | (simp; omega))]; go_simp
  have q3_w1 : w1.cell? ⟨w.heap.size, 3, none⟩ = some (.int .i64 ri) := by rw [k_w1 _ _ (by first | omega | (simp; done) | (simp; omega))]; go_simp
  have q4_w1 : w1.cell? ⟨w.heap.size, 4, none⟩ = some (.int .i64 ba) := by rw [k_w1 _ _ (by first | omega | (simp; done) | (simp; omega))]; go_simp
  have q5_w1 : w1.cell? ⟨w.heap.size, 5, none⟩ = some (.int .i64 bs) := by rw [k_w1 _ _ (by first | omega | (simp; done) | (simp; omega))]; go_simp
  have q6_w1 : w1.cell? ⟨w.heap.size, 6, none⟩ = some (.int .i64 cn) := by rw [k_w1 _ _ (by first | omega | (simp; done) | (simp; omega))]; go_simp
  have q7_w1 : w1.cell? ⟨w.heap.size, 7, none⟩ = some (.int .i64 il) := by rw [k_w1 _ _ (by first | omega | (simp; done) | (simp; omega))]; go_simp
  have q8_w1 : w1.cell? ⟨w.heap.size, 8, none⟩ = some (.int .i64 qu) := by rw [k_w1 _ _ (by first | omega | (simp; done) | (simp; omega))]; go_simp
  have q9_w1 : w1.cell? ⟨w.heap.size, 9, none⟩ = some (.int .i64 0) := by rw [k_w1 _ _ (by first | omega | (simp; done) | (simp; omega))]; go_simp
  have q10_w1 : w1.cell? ⟨w.heap.size, 10, none⟩ = some (.bool dr) := by rw [k_w1 _ _ (by first | omega | (simp; done) | (simp; omega))]; go_simp
  have X_w1 := Lib.hid (show Ext w w1 from Ext.trans (by (repeat' (with_reducible first | refine Ext.drew ?_ | refine Ext.drewN ?_ _ | refine Ext.alloc ?_ _ | exact Ext.refl _ | fail | (refine Ext.setCell ?_ ?_ _; rotate_left; (focus ((try simp); try omega)))))) x_w1)
  clear x_w1 s_w1
  go_wp2_with fail
  exact bodyPost_ret (v := .tuple #[.agg #[.int .i64 lo, .int .i64 hi, .int .i64 wa, .int .i64 ri, .int .i64 ba, .int .i64 bs, .int .i64 cn, .int .i64 il, .int .i64 qu, .int .i64 2, .bool dr], .int .i64 0]) (by simp [results, Try.results26, go_sem, *]) rfl ⟨rfl, by (repeat' (with_reducible first | refine Ext.drew ?_ | refine Ext.drewN ?_ _ | refine Ext.alloc ?_ _ | exact Ext.refl _ | exact X_w1.out | (refine Ext.setCell ?_ ?_ _; rotate_left; (focus ((try simp); try omega)))))⟩
set_option maxHeartbeats 4000000 in
theorem additiveref50_Step_quiet (lo hi wa ri ba bs cn il qu r t d : Int) (dr : Bool) (h : GVal lo hi wa ri ba bs cn il qu 0) (r0 : lo ≤ r) (r1 : r ≤ hi) (d' t' : Int) (hd : d' = max 0 (min d 255)) (ht : t' = max (-1073741824) (min t 1073741824)) (hq : il ≤ qu + 1) (w : World) :
    Calls Try.prog 26 #[.agg #[.int .i64 lo, .int .i64 hi, .int .i64 wa, .int .i64 ri, .int .i64 ba, .int .i64 bs, .int .i64 cn, .int .i64 il, .int .i64 qu, .int .i64 0, .bool dr], .int .i64 r, .int .i64 t, .int .i64 d] w fun e w' => e = .returned (.tuple #[.agg #[.int .i64 lo, .int .i64 hi, .int .i64 wa, .int .i64 ri, .int .i64 ba, .int .i64 r, .int .i64 0, .int .i64 il, .int .i64 il, .int .i64 0, .bool dr], .int .i64 0]) ∧ Ext w w' := by
  have c1 := Lib.hid fun w => ref_GValid lo hi wa ri ba bs cn il qu 0 dr true (by rw [decide_eq_true h]) w
  obtain ⟨b0, b1, b2, b3, b4, b5, b6, b7, b8, b9, b10, b11, b12, b13, b14, b15⟩ := gbnd h
  have q1 : IntKind.i64.wrap (qu + 1) = qu + 1 := IntWalk.i64_in _ (by omega)
  have c2 := Lib.hid fun w => ref_clamp t (-1073741824) 1073741824 (by omega) w
  have c3 := Lib.hid fun w => ref_clamp d 0 255 (by omega) w
  rw [← hd] at c3
  rw [← ht] at c2
  have d1 := dlt_f r0
  have d2 := dlt_f r1
  have d3 := dle_t hq
  have c4 := Lib.hid fun w => ref_clamp (qu + 1) 0 il (by omega) w
  rw [show max 0 (min (qu + 1) il) = il by omega] at c4
  clear hd ht
  clear b0 b1 b2 b3 b4 b5 b6 b7 b8 b9 b10 b11 b12 b13 b14 b15 h
  go_enter Try.func26, Try.ntmps26
  go_wp2_with fail
  refine (c1.out _).mono ?_; rintro e w1 ⟨rfl, x_w1⟩
  obtain ⟨k_w1, f_w1⟩ := bcell x_w1
  have s_w1 := x_w1.size; (try simp at s_w1)
  have z0_w1 : w.heap.size < w1.heap.size := by omega
  have z1_w1 : w.heap.size + 1 < w1.heap.size := by omega
  have q0_w1 : w1.cell? ⟨w.heap.size, 0, none⟩ = some (.int .i64 lo) := by rw [k_w1 _ _ (by first | omega | (simp; done) | (simp; omega))]; go_simp
  have q1_w1 : w1.cell? ⟨w.heap.size, 1, none⟩ = some (.int .i64 hi) := by rw [k_w1 _ _ (by first | omega | (simp; done) | (simp; omega))]; go_simp
  have q2_w1 : w1.cell? ⟨w.heap.size, 2, none⟩ = some (.int .i64 wa) := by rw [k_w1 _ _ (by first | omega | (simp; done) | (simp; omega))]; go_simp
  have q3_w1 : w1.cell? ⟨w.heap.size, 3, none⟩ = some (.int .i64 ri) := by rw [k_w1 _ _ (by first | omega | (simp; done) | (simp; omega))]; go_simp
  have q4_w1 : w1.cell? ⟨w.heap.size, 4, none⟩ = some (.int .i64 ba) := by rw [k_w1 _ _ (by first | omega | (simp; done) | (simp; omega))]; go_simp
  have q5_w1 : w1.cell? ⟨w.heap.size, 5, none⟩ = some (.int .i64 bs) := by rw [k_w1 _ _ (by first | omega | (simp; done) | (simp; omega))]; go_simp
  have q6_w1 : w1.cell? ⟨w.heap.size, 6, none⟩ = some (.int .i64 cn) := by rw [k_w1 _ _ (by first | omega | (simp; done) | (simp; omega))]; go_simp
  have q7_w1 : w1.cell? ⟨w.heap.size, 7, none⟩ = some (.int .i64 il) := by rw [k_w1 _ _ (by first | omega | (simp; done) | (simp; omega))]; go_simp
  have q8_w1 : w1.cell? ⟨w.heap.size, 8, none⟩ = some (.int .i64 qu) := by rw [k_w1 _ _ (by first | omega | (simp; done) | (simp; omega))]; go_simp
  have q9_w1 : w1.cell? ⟨w.heap.size, 9, none⟩ = some (.int .i64 0) := by rw [k_w1 _ _ (by first | omega | (simp; done) | (simp; omega))]; go_simp
  have q10_w1 : w1.cell? ⟨w.heap.size, 10, none⟩ = some (.bool dr) := by rw [k_w1 _ _ (by first | omega | (simp; done) | (simp; omega))]; go_simp
  have X_w1 := Lib.hid (show Ext w w1 from Ext.trans (by (repeat' (with_reducible first | refine Ext.drew ?_ | refine Ext.drewN ?_ _ | refine Ext.alloc ?_ _ | exact Ext.refl _ | fail | (refine Ext.setCell ?_ ?_ _; rotate_left; (focus ((try simp); try omega)))))) x_w1)
  clear x_w1 s_w1
  go_wp2_with fail
  refine (c2.out _).mono ?_; rintro e w' ⟨rfl, rfl⟩
  go_wp2_with fail
  refine (c3.out _).mono ?_; rintro e w' ⟨rfl, rfl⟩
  go_wp2_with fail
  refine (c4.out _).mono ?_; rintro e w' ⟨rfl, rfl⟩
  go_wp2_with fail
  exact bodyPost_ret (v := .tuple #[.agg #[.int .i64 lo, .int .i64 hi, .int .i64 wa, .int .i64 ri, .int .i64 ba, .int .i64 r, .int .i64 0, .int .i64 il, .int .i64 il, .int .i64 0, .bool dr], .int .i64 0]) (by simp [results, Try.results26, go_sem, *]) rfl ⟨rfl, by (repeat' (with_reducible first | refine Ext.drew ?_ | refine Ext.drewN ?_ _ | refine Ext.alloc ?_ _ | exact Ext.refl _ | exact X_w1.out | (refine Ext.setCell ?_ ?_ _; rotate_left; (focus ((try simp); try omega)))))⟩
set_option maxHeartbeats 4000000 in
theorem additiveref50_Step_door (lo hi wa ri ba bs cn il qu r t d : Int) (h : GVal lo hi wa ri ba bs cn il qu 0) (r0 : lo ≤ r) (r1 : r ≤ hi) (d' t' : Int) (hd : d' = max 0 (min d 255)) (ht : t' = max (-1073741824) (min t 1073741824)) (hq : qu + 1 < il) (w : World) :
    Calls Try.prog 26 #[.agg #[.int .i64 lo, .int .i64 hi, .int .i64 wa, .int .i64 ri, .int .i64 ba, .int .i64 bs, .int .i64 cn, .int .i64 il, .int .i64 qu, .int .i64 0, .bool true], .int .i64 r, .int .i64 t, .int .i64 d] w fun e w' => e = .returned (.tuple #[.agg #[.int .i64 lo, .int .i64 hi, .int .i64 wa, .int .i64 ri, .int .i64 ba, .int .i64 r, .int .i64 0, .int .i64 il, .int .i64 (qu + 1), .int .i64 0, .bool true], .int .i64 0]) ∧ Ext w w' := by
  have c1 := Lib.hid fun w => ref_GValid lo hi wa ri ba bs cn il qu 0 true true (by rw [decide_eq_true h]) w
  obtain ⟨b0, b1, b2, b3, b4, b5, b6, b7, b8, b9, b10, b11, b12, b13, b14, b15⟩ := gbnd h
  have q1 : IntKind.i64.wrap (qu + 1) = qu + 1 := IntWalk.i64_in _ (by omega)
  have c2 := Lib.hid fun w => ref_clamp t (-1073741824) 1073741824 (by omega) w
  have c3 := Lib.hid fun w => ref_clamp d 0 255 (by omega) w
  rw [← hd] at c3
  rw [← ht] at c2
  have d1 := dlt_f r0
  have d2 := dlt_f r1
  have d3 := dle_f (show qu + 1 < il by omega)
  have c4 := Lib.hid fun w => ref_clamp (qu + 1) 0 il (by omega) w
  rw [show max 0 (min (qu + 1) il) = qu + 1 by omega] at c4
  clear hd ht
  clear b0 b1 b2 b3 b4 b5 b6 b7 b8 b9 b10 b11 b12 b13 b14 b15 h
  go_enter Try.func26, Try.ntmps26
  go_wp2_with fail
  refine (c1.out _).mono ?_; rintro e w1 ⟨rfl, x_w1⟩
  obtain ⟨k_w1, f_w1⟩ := bcell x_w1
  have s_w1 := x_w1.size; (try simp at s_w1)
  have z0_w1 : w.heap.size < w1.heap.size := by omega
  have z1_w1 : w.heap.size + 1 < w1.heap.size := by omega
  have q0_w1 : w1.cell? ⟨w.heap.size, 0, none⟩ = some (.int .i64 lo) := by rw [k_w1 _ _ (by first | omega | (simp; done) | (simp; omega))]; go_simp
  have q1_w1 : w1.cell? ⟨w.heap.size, 1, none⟩ = some (.int .i64 hi) := by rw [k_w1 _ _ (by first | omega | (simp; done) | (simp; omega))]; go_simp
  have q2_w1 : w1.cell? ⟨w.heap.size, 2, none⟩ = some (.int .i64 wa) := by rw [k_w1 _ _ (by first | omega | (simp; done) | (simp; omega))]; go_simp
  have q3_w1 : w1.cell? ⟨w.heap.size, 3, none⟩ = some (.int .i64 ri) := by rw [k_w1 _ _ (by first | omega | (simp; done) | (simp; omega))]; go_simp
  have q4_w1 : w1.cell? ⟨w.heap.size, 4, none⟩ = some (.int .i64 ba) := by rw [k_w1 _ _ (by first | omega | (simp; done) | (simp; omega))]; go_simp
  have q5_w1 : w1.cell? ⟨w.heap.size, 5, none⟩ = some (.int .i64 bs) := by rw [k_w1 _ _ (by first | omega | (simp; done) | (simp; omega))]; go_simp
  have q6_w1 : w1.cell? ⟨w.heap.size, 6, none⟩ = some (.int .i64 cn) := by rw [k_w1 _ _ (by first | omega | (simp; done) | (simp; omega))]; go_simp
  have q7_w1 : w1.cell? ⟨w.heap.size, 7, none⟩ = some (.int .i64 il) := by rw [k_w1 _ _ (by first | omega | (simp; done) | (simp; omega))]; go_simp
  have q8_w1 : w1.cell? ⟨w.heap.size, 8, none⟩ = some (.int .i64 qu) := by rw [k_w1 _ _ (by first | omega | (simp; done) | (simp; omega))]; go_simp
  have q9_w1 : w1.cell? ⟨w.heap.size, 9, none⟩ = some (.int .i64 0) := by rw [k_w1 _ _ (by first | omega | (simp; done) | (simp; omega))]; go_simp
  have q10_w1 : w1.cell? ⟨w.heap.size, 10, none⟩ = some (.bool true) := by rw [k_w1 _ _ (by first | omega | (simp; done) | (simp; omega))]; go_simp
  have X_w1 := Lib.hid (show Ext w w1 from Ext.trans (by (repeat' (with_reducible first | refine Ext.drew ?_ | refine Ext.drewN ?_ _ | refine Ext.alloc ?_ _ | exact Ext.refl _ | fail | (refine Ext.setCell ?_ ?_ _; rotate_left; (focus ((try simp); try omega)))))) x_w1)
  clear x_w1 s_w1
  go_wp2_with fail
  refine (c2.out _).mono ?_; rintro e w' ⟨rfl, rfl⟩
  go_wp2_with fail
  refine (c3.out _).mono ?_; rintro e w' ⟨rfl, rfl⟩
  go_wp2_with fail
  refine (c4.out _).mono ?_; rintro e w' ⟨rfl, rfl⟩
  go_wp2_with fail
  exact bodyPost_ret (v := .tuple #[.agg #[.int .i64 lo, .int .i64 hi, .int .i64 wa, .int .i64 ri, .int .i64 ba, .int .i64 r, .int .i64 0, .int .i64 il, .int .i64 (qu + 1), .int .i64 0, .bool true], .int .i64 0]) (by simp [results, Try.results26, go_sem, *]) rfl ⟨rfl, by (repeat' (with_reducible first | refine Ext.drew ?_ | refine Ext.drewN ?_ _ | refine Ext.alloc ?_ _ | exact Ext.refl _ | exact X_w1.out | (refine Ext.setCell ?_ ?_ _; rotate_left; (focus ((try simp); try omega)))))⟩
set_option maxHeartbeats 4000000 in
theorem additiveref50_Step_zero (lo hi wa ri ba bs cn il qu r t d : Int) (h : GVal lo hi wa ri ba bs cn il qu 0) (r0 : lo ≤ r) (r1 : r ≤ hi) (hq : qu + 1 < il) (d' t' : Int) (hd : d' = max 0 (min d 255)) (ht : t' = max (-1073741824) (min t 1073741824)) (h0 : d' = 0) (w : World) :
    Calls Try.prog 26 #[.agg #[.int .i64 lo, .int .i64 hi, .int .i64 wa, .int .i64 ri, .int .i64 ba, .int .i64 bs, .int .i64 cn, .int .i64 il, .int .i64 qu, .int .i64 0, .bool false], .int .i64 r, .int .i64 t, .int .i64 d] w fun e w' => e = .returned (.tuple #[.agg #[.int .i64 lo, .int .i64 hi, .int .i64 wa, .int .i64 ri, .int .i64 ba, .int .i64 r, .int .i64 0, .int .i64 il, .int .i64 (qu + 1), .int .i64 0, .bool false], .int .i64 0]) ∧ Ext w w' := by
  have c1 := Lib.hid fun w => ref_GValid lo hi wa ri ba bs cn il qu 0 false true (by rw [decide_eq_true h]) w
  obtain ⟨b0, b1, b2, b3, b4, b5, b6, b7, b8, b9, b10, b11, b12, b13, b14, b15⟩ := gbnd h
  have q1 : IntKind.i64.wrap (qu + 1) = qu + 1 := IntWalk.i64_in _ (by omega)
  have d1 := dlt_f r0
  have d2 := dlt_f r1
  have d3 := dle_f (show qu + 1 < il by omega)
  have c2 := Lib.hid fun w => ref_clamp t (-1073741824) 1073741824 (by omega) w
  have c3 := Lib.hid fun w => ref_clamp d 0 255 (by omega) w
  rw [← hd] at c3
  rw [← ht] at c2
  have c4 := Lib.hid fun w => ref_clamp (qu + 1) 0 il (by omega) w
  rw [show max 0 (min (qu + 1) il) = qu + 1 by omega] at c4
  have tb : IntKind.i64.wrap (t' - ba) = t' - ba := IntWalk.i64_in _ (by omega)
  subst h0
  clear hd ht
  clear b0 b1 b2 b3 b4 b5 b6 b7 b8 b9 b10 b11 b12 b13 b14 b15 h
  go_enter Try.func26, Try.ntmps26
  go_wp2_with fail
  refine (c1.out _).mono ?_; rintro e w1 ⟨rfl, x_w1⟩
  obtain ⟨k_w1, f_w1⟩ := bcell x_w1
  have s_w1 := x_w1.size; (try simp at s_w1)
  have z0_w1 : w.heap.size < w1.heap.size := by omega
  have z1_w1 : w.heap.size + 1 < w1.heap.size := by omega
  have q0_w1 : w1.cell? ⟨w.heap.size, 0, none⟩ = some (.int .i64 lo) := by rw [k_w1 _ _ (by first | omega | (simp; done) | (simp; omega))]; go_simp
  have q1_w1 : w1.cell? ⟨w.heap.size, 1, none⟩ = some (.int .i64 hi) := by rw [k_w1 _ _ (by first | omega | (simp; done) | (simp; omega))]; go_simp
  have q2_w1 : w1.cell? ⟨w.heap.size, 2, none⟩ = some (.int .i64 wa) := by rw [k_w1 _ _ (by first | omega | (simp; done) | (simp; omega))]; go_simp
  have q3_w1 : w1.cell? ⟨w.heap.size, 3, none⟩ = some (.int .i64 ri) := by rw [k_w1 _ _ (by first | omega | (simp; done) | (simp; omega))]; go_simp
  have q4_w1 : w1.cell? ⟨w.heap.size, 4, none⟩ = some (.int .i64 ba) := by rw [k_w1 _ _ (by first | omega | (simp; done) | (simp; omega))]; go_simp
  have q5_w1 : w1.cell? ⟨w.heap.size, 5, none⟩ = some (.int .i64 bs) := by rw [k_w1 _ _ (by first | omega | (simp; done) | (simp; omega))]; go_simp
  have q6_w1 : w1.cell? ⟨w.heap.size, 6, none⟩ = some (.int .i64 cn) := by rw [k_w1 _ _ (by first | omega | (simp; done) | (simp; omega))]; go_simp
  have q7_w1 : w1.cell? ⟨w.heap.size, 7, none⟩ = some (.int .i64 il) := by rw [k_w1 _ _ (by first | omega | (simp; done) | (simp; omega))]; go_simp
  have q8_w1 : w1.cell? ⟨w.heap.size, 8, none⟩ = some (.int .i64 qu) := by rw [k_w1 _ _ (by first | omega | (simp; done) | (simp; omega))]; go_simp
  have q9_w1 : w1.cell? ⟨w.heap.size, 9, none⟩ = some (.int .i64 0) := by rw [k_w1 _ _ (by first | omega | (simp; done) | (simp; omega))]; go_simp
  have q10_w1 : w1.cell? ⟨w.heap.size, 10, none⟩ = some (.bool false) := by rw [k_w1 _ _ (by first | omega | (simp; done) | (simp; omega))]; go_simp
  have X_w1 := Lib.hid (show Ext w w1 from Ext.trans (by (repeat' (with_reducible first | refine Ext.drew ?_ | refine Ext.drewN ?_ _ | refine Ext.alloc ?_ _ | exact Ext.refl _ | fail | (refine Ext.setCell ?_ ?_ _; rotate_left; (focus ((try simp); try omega)))))) x_w1)
  clear x_w1 s_w1
  go_wp2_with fail
  refine (c2.out _).mono ?_; rintro e w' ⟨rfl, rfl⟩
  go_wp2_with fail
  refine (c3.out _).mono ?_; rintro e w' ⟨rfl, rfl⟩
  go_wp2_with fail
  refine (c4.out _).mono ?_; rintro e w' ⟨rfl, rfl⟩
  go_wp2_with fail
  exact bodyPost_ret (v := .tuple #[.agg #[.int .i64 lo, .int .i64 hi, .int .i64 wa, .int .i64 ri, .int .i64 ba, .int .i64 r, .int .i64 0, .int .i64 il, .int .i64 (qu + 1), .int .i64 0, .bool false], .int .i64 0]) (by simp [results, Try.results26, go_sem, *]) rfl ⟨rfl, by (repeat' (with_reducible first | refine Ext.drew ?_ | refine Ext.drewN ?_ _ | refine Ext.alloc ?_ _ | exact Ext.refl _ | exact X_w1.out | (refine Ext.setCell ?_ ?_ _; rotate_left; (focus ((try simp); try omega)))))⟩
set_option maxHeartbeats 4000000 in
theorem additiveref50_Step_near (lo hi wa ri ba bs cn il qu r t d : Int) (h : GVal lo hi wa ri ba bs cn il qu 0) (r0 : lo ≤ r) (r1 : r ≤ hi) (hq : qu + 1 < il) (d' t' : Int) (hd : d' = max 0 (min d 255)) (ht : t' = max (-1073741824) (min t 1073741824)) (h0 : d' ≠ 0) (h1 : t' - ba ≤ r) (w : World) :
    Calls Try.prog 26 #[.agg #[.int .i64 lo, .int .i64 hi, .int .i64 wa, .int .i64 ri, .int .i64 ba, .int .i64 bs, .int .i64 cn, .int .i64 il, .int .i64 qu, .int .i64 0, .bool false], .int .i64 r, .int .i64 t, .int .i64 d] w fun e w' => e = .returned (.tuple #[.agg #[.int .i64 lo, .int .i64 hi, .int .i64 wa, .int .i64 ri, .int .i64 ba, .int .i64 r, .int .i64 0, .int .i64 il, .int .i64 (qu + 1), .int .i64 0, .bool false], .int .i64 d']) ∧ Ext w w' := by
  have c1 := Lib.hid fun w => ref_GValid lo hi wa ri ba bs cn il qu 0 false true (by rw [decide_eq_true h]) w
  obtain ⟨b0, b1, b2, b3, b4, b5, b6, b7, b8, b9, b10, b11, b12, b13, b14, b15⟩ := gbnd h
  have q1 : IntKind.i64.wrap (qu + 1) = qu + 1 := IntWalk.i64_in _ (by omega)
  have d1 := dlt_f r0
  have d2 := dlt_f r1
  have d3 := dle_f (show qu + 1 < il by omega)
  have c2 := Lib.hid fun w => ref_clamp t (-1073741824) 1073741824 (by omega) w
  have c3 := Lib.hid fun w => ref_clamp d 0 255 (by omega) w
  rw [← hd] at c3
  rw [← ht] at c2
  have c4 := Lib.hid fun w => ref_clamp (qu + 1) 0 il (by omega) w
  rw [show max 0 (min (qu + 1) il) = qu + 1 by omega] at c4
  have tb : IntKind.i64.wrap (t' - ba) = t' - ba := IntWalk.i64_in _ (by omega)
  have d4 := beq_f h0
  have d5 := dle_t h1
  clear hd ht h0 h1
  clear b0 b1 b2 b3 b4 b5 b6 b7 b8 b9 b10 b11 b12 b13 b14 b15 h
  go_enter Try.func26, Try.ntmps26
  go_wp2_with fail
  refine (c1.out _).mono ?_; rintro e w1 ⟨rfl, x_w1⟩
  obtain ⟨k_w1, f_w1⟩ := bcell x_w1
  have s_w1 := x_w1.size; (try simp at s_w1)
  have z0_w1 : w.heap.size < w1.heap.size := by omega
  have z1_w1 : w.heap.size + 1 < w1.heap.size := by omega
  have q0_w1 : w1.cell? ⟨w.heap.size, 0, none⟩ = some (.int .i64 lo) := by rw [k_w1 _ _ (by first | omega | (simp; done) | (simp; omega))]; go_simp
  have q1_w1 : w1.cell? ⟨w.heap.size, 1, none⟩ = some (.int .i64 hi) := by rw [k_w1 _ _ (by first | omega | (simp; done) | (simp; omega))]; go_simp
  have q2_w1 : w1.cell? ⟨w.heap.size, 2, none⟩ = some (.int .i64 wa) := by rw [k_w1 _ _ (by first | omega | (simp; done) | (simp; omega))]; go_simp
  have q3_w1 : w1.cell? ⟨w.heap.size, 3, none⟩ = some (.int .i64 ri) := by rw [k_w1 _ _ (by first | omega | (simp; done) | (simp; omega))]; go_simp
  have q4_w1 : w1.cell? ⟨w.heap.size, 4, none⟩ = some (.int .i64 ba) := by rw [k_w1 _ _ (by first | omega | (simp; done) | (simp; omega))]; go_simp
  have q5_w1 : w1.cell? ⟨w.heap.size, 5, none⟩ = some (.int .i64 bs) := by rw [k_w1 _ _ (by first | omega | (simp; done) | (simp; omega))]; go_simp
  have q6_w1 : w1.cell? ⟨w.heap.size, 6, none⟩ = some (.int .i64 cn) := by rw [k_w1 _ _ (by first | omega | (simp; done) | (simp; omega))]; go_simp
  have q7_w1 : w1.cell? ⟨w.heap.size, 7, none⟩ = some (.int .i64 il) := by rw [k_w1 _ _ (by first | omega | (simp; done) | (simp; omega))]; go_simp
  have q8_w1 : w1.cell? ⟨w.heap.size, 8, none⟩ = some (.int .i64 qu) := by rw [k_w1 _ _ (by first | omega | (simp; done) | (simp; omega))]; go_simp
  have q9_w1 : w1.cell? ⟨w.heap.size, 9, none⟩ = some (.int .i64 0) := by rw [k_w1 _ _ (by first | omega | (simp; done) | (simp; omega))]; go_simp
  have q10_w1 : w1.cell? ⟨w.heap.size, 10, none⟩ = some (.bool false) := by rw [k_w1 _ _ (by first | omega | (simp; done) | (simp; omega))]; go_simp
  have X_w1 := Lib.hid (show Ext w w1 from Ext.trans (by (repeat' (with_reducible first | refine Ext.drew ?_ | refine Ext.drewN ?_ _ | refine Ext.alloc ?_ _ | exact Ext.refl _ | fail | (refine Ext.setCell ?_ ?_ _; rotate_left; (focus ((try simp); try omega)))))) x_w1)
  clear x_w1 s_w1
  go_wp2_with fail
  refine (c2.out _).mono ?_; rintro e w' ⟨rfl, rfl⟩
  go_wp2_with fail
  refine (c3.out _).mono ?_; rintro e w' ⟨rfl, rfl⟩
  go_wp2_with fail
  refine (c4.out _).mono ?_; rintro e w' ⟨rfl, rfl⟩
  go_wp2_with fail
  exact bodyPost_ret (v := .tuple #[.agg #[.int .i64 lo, .int .i64 hi, .int .i64 wa, .int .i64 ri, .int .i64 ba, .int .i64 r, .int .i64 0, .int .i64 il, .int .i64 (qu + 1), .int .i64 0, .bool false], .int .i64 d']) (by simp [results, Try.results26, go_sem, *]) rfl ⟨rfl, by (repeat' (with_reducible first | refine Ext.drew ?_ | refine Ext.drewN ?_ _ | refine Ext.alloc ?_ _ | exact Ext.refl _ | exact X_w1.out | (refine Ext.setCell ?_ ?_ _; rotate_left; (focus ((try simp); try omega)))))⟩
set_option maxHeartbeats 4000000 in
theorem additiveref50_Step_rise_no (lo hi wa ri ba bs cn il qu r t d : Int) (h : GVal lo hi wa ri ba bs cn il qu 0) (r0 : lo ≤ r) (r1 : r ≤ hi) (hq : qu + 1 < il) (d' t' : Int) (hd : d' = max 0 (min d 255)) (ht : t' = max (-1073741824) (min t 1073741824)) (h0 : d' ≠ 0) (h1 : r < t' - ba) (h4 : bs + ri ≤ r) (h5 : wa ≤ 1) (w : World) :
    Calls Try.prog 26 #[.agg #[.int .i64 lo, .int .i64 hi, .int .i64 wa, .int .i64 ri, .int .i64 ba, .int .i64 bs, .int .i64 cn, .int .i64 il, .int .i64 qu, .int .i64 0, .bool false], .int .i64 r, .int .i64 t, .int .i64 d] w fun e w' => e = .returned (.tuple #[.agg #[.int .i64 lo, .int .i64 hi, .int .i64 wa, .int .i64 ri, .int .i64 ba, .int .i64 r, .int .i64 wa, .int .i64 il, .int .i64 (qu + 1), .int .i64 3, .bool false], .int .i64 0]) ∧ Ext w w' := by
  have c1 := Lib.hid fun w => ref_GValid lo hi wa ri ba bs cn il qu 0 false true (by rw [decide_eq_true h]) w
  obtain ⟨b0, b1, b2, b3, b4, b5, b6, b7, b8, b9, b10, b11, b12, b13, b14, b15⟩ := gbnd h
  have q1 : IntKind.i64.wrap (qu + 1) = qu + 1 := IntWalk.i64_in _ (by omega)
  have q2 : IntKind.i64.wrap (bs + ri) = bs + ri := IntWalk.i64_in _ (by omega)
  have q3 : IntKind.i64.wrap (cn + 1) = cn + 1 := IntWalk.i64_in _ (by omega)
  have d1 := dlt_f r0
  have d2 := dlt_f r1
  have d3 := dle_f (show qu + 1 < il by omega)
  have c2 := Lib.hid fun w => ref_clamp t (-1073741824) 1073741824 (by omega) w
  have c3 := Lib.hid fun w => ref_clamp d 0 255 (by omega) w
  rw [← hd] at c3
  rw [← ht] at c2
  have tb : IntKind.i64.wrap (t' - ba) = t' - ba := IntWalk.i64_in _ (by omega)
  have d4 := beq_f h0
  have d5 := dle_f h1
  have d6 := dle_t h4
  have d7 := dle_t h5
  clear hd ht h0 h1 h4 h5
  clear b0 b1 b2 b3 b4 b5 b6 b7 b8 b9 b10 b11 b12 b13 b14 b15 h
  have ra := Lib.hid fun w1 (x : Ext ((w.alloc (.cells #[.int .i64 lo, .int .i64 hi, .int .i64 wa, .int .i64 ri, .int .i64 ba, .int .i64 bs, .int .i64 cn, .int .i64 il, .int .i64 qu, .int .i64 0, .bool false] 41)).alloc (.cells #[.int .i64 0, .int .i64 0, .int .i64 0, .int .i64 0, .int .i64 0, .int .i64 0, .int .i64 0, .int .i64 0, .int .i64 0, .int .i64 0, .bool false] 41)) w1) => ((Room.new w #[.int .i64 lo, .int .i64 hi, .int .i64 wa, .int .i64 ri, .int .i64 ba, .int .i64 bs, .int .i64 cn, .int .i64 il, .int .i64 qu, .int .i64 0, .bool false] 41).alloc (Nat.zero_lt_succ _) (.cells #[.int .i64 0, .int .i64 0, .int .i64 0, .int .i64 0, .int .i64 0, .int .i64 0, .int .i64 0, .int .i64 0, .int .i64 0, .int .i64 0, .bool false] 41)).ext x (Nat.zero_lt_succ _)
  have rb := Lib.hid fun w1 (x : Ext ((w.alloc (.cells #[.int .i64 lo, .int .i64 hi, .int .i64 wa, .int .i64 ri, .int .i64 ba, .int .i64 bs, .int .i64 cn, .int .i64 il, .int .i64 qu, .int .i64 0, .bool false] 41)).alloc (.cells #[.int .i64 0, .int .i64 0, .int .i64 0, .int .i64 0, .int .i64 0, .int .i64 0, .int .i64 0, .int .i64 0, .int .i64 0, .int .i64 0, .bool false] 41)) w1) => (Room.new (w.alloc (.cells #[.int .i64 lo, .int .i64 hi, .int .i64 wa, .int .i64 ri, .int .i64 ba, .int .i64 bs, .int .i64 cn, .int .i64 il, .int .i64 qu, .int .i64 0, .bool false] 41)) #[.int .i64 0, .int .i64 0, .int .i64 0, .int .i64 0, .int .i64 0, .int .i64 0, .int .i64 0, .int .i64 0, .int .i64 0, .int .i64 0, .bool false] 41).ext x (Nat.zero_lt_succ _)
  go_enter Try.func26, Try.ntmps26
  go_wp2_with fail
  refine (c1.out _).mono ?_; rintro e w1 ⟨rfl, x_w1⟩
  have RA1 := Lib.hid (show Room w1 w.heap.size 11 from ra.out w1 x_w1)
  have RB1 := Lib.hid (show Room w1 (w.heap.size + 1) 11 from by simpa using rb.out w1 x_w1)
  have q0_w1 : w1.cell? ⟨w.heap.size, 0, none⟩ = some (.int .i64 lo) := x_w1.keep (by go_simp)
  have q1_w1 : w1.cell? ⟨w.heap.size, 1, none⟩ = some (.int .i64 hi) := x_w1.keep (by go_simp)
  have q2_w1 : w1.cell? ⟨w.heap.size, 2, none⟩ = some (.int .i64 wa) := x_w1.keep (by go_simp)
  have q3_w1 : w1.cell? ⟨w.heap.size, 3, none⟩ = some (.int .i64 ri) := x_w1.keep (by go_simp)
  have q4_w1 : w1.cell? ⟨w.heap.size, 4, none⟩ = some (.int .i64 ba) := x_w1.keep (by go_simp)
  have q5_w1 : w1.cell? ⟨w.heap.size, 5, none⟩ = some (.int .i64 bs) := x_w1.keep (by go_simp)
  have q6_w1 : w1.cell? ⟨w.heap.size, 6, none⟩ = some (.int .i64 cn) := x_w1.keep (by go_simp)
  have q7_w1 : w1.cell? ⟨w.heap.size, 7, none⟩ = some (.int .i64 il) := x_w1.keep (by go_simp)
  have q8_w1 : w1.cell? ⟨w.heap.size, 8, none⟩ = some (.int .i64 qu) := x_w1.keep (by go_simp)
  have q9_w1 : w1.cell? ⟨w.heap.size, 9, none⟩ = some (.int .i64 0) := x_w1.keep (by go_simp)
  have q10_w1 : w1.cell? ⟨w.heap.size, 10, none⟩ = some (.bool false) := x_w1.keep (by go_simp)
  have z_w1 := cell_lt q0_w1
  have z2_w1 : w.heap.size + 1 < w1.heap.size := RB1.out.lt (by decide)
  have X_w1 := Lib.hid (show Ext w w1 from (((Ext.refl w).alloc _).alloc _).trans x_w1)
  clear x_w1 ra rb
  simp only at z_w1
  go_wp2_with fail
  refine (c2.out _).mono ?_; rintro e w' ⟨rfl, rfl⟩
  go_wp2_with fail
  refine (c3.out _).mono ?_; rintro e w' ⟨rfl, rfl⟩
  go_wp2_with (refine stop_store (ty := 3) rfl ?_)
  refine ⟨?_⟩
  refine wpList_store_one rfl _ _ _ rfl (w.heap.size) 8 _ (.int .i64 (qu + 1)) rfl rfl rfl (by kernel_rfl) rfl (RA1.out) (by decide) (fun S0 HS_S0 => ?_)
  have X_S0 := Lib.hid (HS_S0.ext w (by (repeat' (with_reducible first | refine Ext.drew ?_ | refine Ext.drewN ?_ _ | refine Ext.alloc ?_ _ | exact Ext.refl _ | exact X_w1.out | (refine Ext.setCell ?_ ?_ _; rotate_left; (focus ((try simp); try omega)))))) (by first | exact Nat.le_refl _ | omega | (simp; done) | (simp; omega)))
  have q0_S0 : S0.cell? ⟨w.heap.size, 0, none⟩ = some (.int .i64 lo) := by rw [HS_S0.off' 0 (by decide)]; go_simp
  have q1_S0 : S0.cell? ⟨w.heap.size, 1, none⟩ = some (.int .i64 hi) := by rw [HS_S0.off' 1 (by decide)]; go_simp
  have q2_S0 : S0.cell? ⟨w.heap.size, 2, none⟩ = some (.int .i64 wa) := by rw [HS_S0.off' 2 (by decide)]; go_simp
  have q3_S0 : S0.cell? ⟨w.heap.size, 3, none⟩ = some (.int .i64 ri) := by rw [HS_S0.off' 3 (by decide)]; go_simp
  have q4_S0 : S0.cell? ⟨w.heap.size, 4, none⟩ = some (.int .i64 ba) := by rw [HS_S0.off' 4 (by decide)]; go_simp
  have q5_S0 : S0.cell? ⟨w.heap.size, 5, none⟩ = some (.int .i64 bs) := by rw [HS_S0.off' 5 (by decide)]; go_simp
  have q6_S0 : S0.cell? ⟨w.heap.size, 6, none⟩ = some (.int .i64 cn) := by rw [HS_S0.off' 6 (by decide)]; go_simp
  have q7_S0 : S0.cell? ⟨w.heap.size, 7, none⟩ = some (.int .i64 il) := by rw [HS_S0.off' 7 (by decide)]; go_simp
  have q8_S0 : S0.cell? ⟨w.heap.size, 8, none⟩ = some (.int .i64 (qu + 1)) := HS_S0.at'
  have q9_S0 : S0.cell? ⟨w.heap.size, 9, none⟩ = some (.int .i64 0) := by rw [HS_S0.off' 9 (by decide)]; go_simp
  have q10_S0 : S0.cell? ⟨w.heap.size, 10, none⟩ = some (.bool false) := by rw [HS_S0.off' 10 (by decide)]; go_simp
  have RM_S0 := Lib.hid (HS_S0.room _ _ (RA1.out))
  have fz_S0 : ∀ o, S0.frozen? ⟨w.heap.size, o, none⟩ = false := RM_S0.out.2
  have z_S0 : w.heap.size < S0.heap.size := cell_lt q0_S0
  have ST_S0 := Lib.hid HS_S0
  clear HS_S0
  go_wp2_with (refine stop_store (ty := 3) rfl ?_)
  refine ⟨?_⟩
  refine wpList_store_one rfl _ _ _ rfl (w.heap.size) 5 _ (.int .i64 r) rfl rfl rfl (by kernel_rfl) rfl (RM_S0.out) (by decide) (fun S1 HS_S1 => ?_)
  have X_S1 := Lib.hid (HS_S1.ext w (by (repeat' (with_reducible first | refine Ext.drew ?_ | refine Ext.drewN ?_ _ | refine Ext.alloc ?_ _ | exact Ext.refl _ | exact X_S0.out | exact X_w1.out | (refine Ext.setCell ?_ ?_ _; rotate_left; (focus ((try simp); try omega)))))) (by first | exact Nat.le_refl _ | omega | (simp; done) | (simp; omega)))
  have q0_S1 : S1.cell? ⟨w.heap.size, 0, none⟩ = some (.int .i64 lo) := by rw [HS_S1.off' 0 (by decide)]; go_simp
  have q1_S1 : S1.cell? ⟨w.heap.size, 1, none⟩ = some (.int .i64 hi) := by rw [HS_S1.off' 1 (by decide)]; go_simp
  have q2_S1 : S1.cell? ⟨w.heap.size, 2, none⟩ = some (.int .i64 wa) := by rw [HS_S1.off' 2 (by decide)]; go_simp
  have q3_S1 : S1.cell? ⟨w.heap.size, 3, none⟩ = some (.int .i64 ri) := by rw [HS_S1.off' 3 (by decide)]; go_simp
  have q4_S1 : S1.cell? ⟨w.heap.size, 4, none⟩ = some (.int .i64 ba) := by rw [HS_S1.off' 4 (by decide)]; go_simp
  have q5_S1 : S1.cell? ⟨w.heap.size, 5, none⟩ = some (.int .i64 r) := HS_S1.at'
  have q6_S1 : S1.cell? ⟨w.heap.size, 6, none⟩ = some (.int .i64 cn) := by rw [HS_S1.off' 6 (by decide)]; go_simp
  have q7_S1 : S1.cell? ⟨w.heap.size, 7, none⟩ = some (.int .i64 il) := by rw [HS_S1.off' 7 (by decide)]; go_simp
  have q8_S1 : S1.cell? ⟨w.heap.size, 8, none⟩ = some (.int .i64 (qu + 1)) := by rw [HS_S1.off' 8 (by decide)]; go_simp
  have q9_S1 : S1.cell? ⟨w.heap.size, 9, none⟩ = some (.int .i64 0) := by rw [HS_S1.off' 9 (by decide)]; go_simp
  have q10_S1 : S1.cell? ⟨w.heap.size, 10, none⟩ = some (.bool false) := by rw [HS_S1.off' 10 (by decide)]; go_simp
  have RM_S1 := Lib.hid (HS_S1.room _ _ (RM_S0.out))
  have fz_S1 : ∀ o, S1.frozen? ⟨w.heap.size, o, none⟩ = false := RM_S1.out.2
  have z_S1 : w.heap.size < S1.heap.size := cell_lt q0_S1
  have ST_S1 := Lib.hid HS_S1
  clear HS_S1
  go_wp2_with (refine stop_store (ty := 3) rfl ?_)
  refine ⟨?_⟩
  refine wpList_store_one rfl _ _ _ rfl (w.heap.size) 6 _ (.int .i64 0) rfl rfl rfl (by kernel_rfl) rfl (RM_S1.out) (by decide) (fun S2 HS_S2 => ?_)
  have X_S2 := Lib.hid (HS_S2.ext w (by (repeat' (with_reducible first | refine Ext.drew ?_ | refine Ext.drewN ?_ _ | refine Ext.alloc ?_ _ | exact Ext.refl _ | exact X_S1.out | exact X_S0.out | exact X_w1.out | (refine Ext.setCell ?_ ?_ _; rotate_left; (focus ((try simp); try omega)))))) (by first | exact Nat.le_refl _ | omega | (simp; done) | (simp; omega)))
  have q0_S2 : S2.cell? ⟨w.heap.size, 0, none⟩ = some (.int .i64 lo) := by rw [HS_S2.off' 0 (by decide)]; go_simp
  have q1_S2 : S2.cell? ⟨w.heap.size, 1, none⟩ = some (.int .i64 hi) := by rw [HS_S2.off' 1 (by decide)]; go_simp
  have q2_S2 : S2.cell? ⟨w.heap.size, 2, none⟩ = some (.int .i64 wa) := by rw [HS_S2.off' 2 (by decide)]; go_simp
  have q3_S2 : S2.cell? ⟨w.heap.size, 3, none⟩ = some (.int .i64 ri) := by rw [HS_S2.off' 3 (by decide)]; go_simp
  have q4_S2 : S2.cell? ⟨w.heap.size, 4, none⟩ = some (.int .i64 ba) := by rw [HS_S2.off' 4 (by decide)]; go_simp
  have q5_S2 : S2.cell? ⟨w.heap.size, 5, none⟩ = some (.int .i64 r) := by rw [HS_S2.off' 5 (by decide)]; go_simp
  have q6_S2 : S2.cell? ⟨w.heap.size, 6, none⟩ = some (.int .i64 0) := HS_S2.at'
  have q7_S2 : S2.cell? ⟨w.heap.size, 7, none⟩ = some (.int .i64 il) := by rw [HS_S2.off' 7 (by decide)]; go_simp
  have q8_S2 : S2.cell? ⟨w.heap.size, 8, none⟩ = some (.int .i64 (qu + 1)) := by rw [HS_S2.off' 8 (by decide)]; go_simp
  have q9_S2 : S2.cell? ⟨w.heap.size, 9, none⟩ = some (.int .i64 0) := by rw [HS_S2.off' 9 (by decide)]; go_simp
  have q10_S2 : S2.cell? ⟨w.heap.size, 10, none⟩ = some (.bool false) := by rw [HS_S2.off' 10 (by decide)]; go_simp
  have RM_S2 := Lib.hid (HS_S2.room _ _ (RM_S1.out))
  have fz_S2 : ∀ o, S2.frozen? ⟨w.heap.size, o, none⟩ = false := RM_S2.out.2
  have z_S2 : w.heap.size < S2.heap.size := cell_lt q0_S2
  have ST_S2 := Lib.hid HS_S2
  clear HS_S2
  go_wp2_with (refine stop_store (ty := 3) rfl ?_)
  refine ⟨?_⟩
  refine wpList_store_one rfl _ _ _ rfl (w.heap.size) 6 _ (.int .i64 1) rfl rfl rfl (by kernel_rfl) rfl (RM_S2.out) (by decide) (fun S3 HS_S3 => ?_)
  have X_S3 := Lib.hid (HS_S3.ext w (by (repeat' (with_reducible first | refine Ext.drew ?_ | refine Ext.drewN ?_ _ | refine Ext.alloc ?_ _ | exact Ext.refl _ | exact X_S2.out | exact X_S1.out | exact X_S0.out | exact X_w1.out | (refine Ext.setCell ?_ ?_ _; rotate_left; (focus ((try simp); try omega)))))) (by first | exact Nat.le_refl _ | omega | (simp; done) | (simp; omega)))
  have q0_S3 : S3.cell? ⟨w.heap.size, 0, none⟩ = some (.int .i64 lo) := by rw [HS_S3.off' 0 (by decide)]; go_simp
  have q1_S3 : S3.cell? ⟨w.heap.size, 1, none⟩ = some (.int .i64 hi) := by rw [HS_S3.off' 1 (by decide)]; go_simp
  have q2_S3 : S3.cell? ⟨w.heap.size, 2, none⟩ = some (.int .i64 wa) := by rw [HS_S3.off' 2 (by decide)]; go_simp
  have q3_S3 : S3.cell? ⟨w.heap.size, 3, none⟩ = some (.int .i64 ri) := by rw [HS_S3.off' 3 (by decide)]; go_simp
  have q4_S3 : S3.cell? ⟨w.heap.size, 4, none⟩ = some (.int .i64 ba) := by rw [HS_S3.off' 4 (by decide)]; go_simp
  have q5_S3 : S3.cell? ⟨w.heap.size, 5, none⟩ = some (.int .i64 r) := by rw [HS_S3.off' 5 (by decide)]; go_simp
  have q6_S3 : S3.cell? ⟨w.heap.size, 6, none⟩ = some (.int .i64 1) := HS_S3.at'
  have q7_S3 : S3.cell? ⟨w.heap.size, 7, none⟩ = some (.int .i64 il) := by rw [HS_S3.off' 7 (by decide)]; go_simp
  have q8_S3 : S3.cell? ⟨w.heap.size, 8, none⟩ = some (.int .i64 (qu + 1)) := by rw [HS_S3.off' 8 (by decide)]; go_simp
  have q9_S3 : S3.cell? ⟨w.heap.size, 9, none⟩ = some (.int .i64 0) := by rw [HS_S3.off' 9 (by decide)]; go_simp
  have q10_S3 : S3.cell? ⟨w.heap.size, 10, none⟩ = some (.bool false) := by rw [HS_S3.off' 10 (by decide)]; go_simp
  have RM_S3 := Lib.hid (HS_S3.room _ _ (RM_S2.out))
  have fz_S3 : ∀ o, S3.frozen? ⟨w.heap.size, o, none⟩ = false := RM_S3.out.2
  have z_S3 : w.heap.size < S3.heap.size := cell_lt q0_S3
  have ST_S3 := Lib.hid HS_S3
  clear HS_S3
  go_wp2_with (refine stop_store (ty := 3) rfl ?_)
  refine ⟨?_⟩
  refine wpList_store_one rfl _ _ _ rfl (w.heap.size) 6 _ (.int .i64 wa) rfl rfl rfl (by kernel_rfl) rfl (RM_S3.out) (by decide) (fun S4 HS_S4 => ?_)
  have X_S4 := Lib.hid (HS_S4.ext w (by (repeat' (with_reducible first | refine Ext.drew ?_ | refine Ext.drewN ?_ _ | refine Ext.alloc ?_ _ | exact Ext.refl _ | exact X_S3.out | exact X_S2.out | exact X_S1.out | exact X_S0.out | exact X_w1.out | (refine Ext.setCell ?_ ?_ _; rotate_left; (focus ((try simp); try omega)))))) (by first | exact Nat.le_refl _ | omega | (simp; done) | (simp; omega)))
  have q0_S4 : S4.cell? ⟨w.heap.size, 0, none⟩ = some (.int .i64 lo) := by rw [HS_S4.off' 0 (by decide)]; go_simp
  have q1_S4 : S4.cell? ⟨w.heap.size, 1, none⟩ = some (.int .i64 hi) := by rw [HS_S4.off' 1 (by decide)]; go_simp
  have q2_S4 : S4.cell? ⟨w.heap.size, 2, none⟩ = some (.int .i64 wa) := by rw [HS_S4.off' 2 (by decide)]; go_simp
  have q3_S4 : S4.cell? ⟨w.heap.size, 3, none⟩ = some (.int .i64 ri) := by rw [HS_S4.off' 3 (by decide)]; go_simp
  have q4_S4 : S4.cell? ⟨w.heap.size, 4, none⟩ = some (.int .i64 ba) := by rw [HS_S4.off' 4 (by decide)]; go_simp
  have q5_S4 : S4.cell? ⟨w.heap.size, 5, none⟩ = some (.int .i64 r) := by rw [HS_S4.off' 5 (by decide)]; go_simp
  have q6_S4 : S4.cell? ⟨w.heap.size, 6, none⟩ = some (.int .i64 wa) := HS_S4.at'
  have q7_S4 : S4.cell? ⟨w.heap.size, 7, none⟩ = some (.int .i64 il) := by rw [HS_S4.off' 7 (by decide)]; go_simp
  have q8_S4 : S4.cell? ⟨w.heap.size, 8, none⟩ = some (.int .i64 (qu + 1)) := by rw [HS_S4.off' 8 (by decide)]; go_simp
  have q9_S4 : S4.cell? ⟨w.heap.size, 9, none⟩ = some (.int .i64 0) := by rw [HS_S4.off' 9 (by decide)]; go_simp
  have q10_S4 : S4.cell? ⟨w.heap.size, 10, none⟩ = some (.bool false) := by rw [HS_S4.off' 10 (by decide)]; go_simp
  have RM_S4 := Lib.hid (HS_S4.room _ _ (RM_S3.out))
  have fz_S4 : ∀ o, S4.frozen? ⟨w.heap.size, o, none⟩ = false := RM_S4.out.2
  have z_S4 : w.heap.size < S4.heap.size := cell_lt q0_S4
  have ST_S4 := Lib.hid HS_S4
  clear HS_S4
  go_wp2_with (refine stop_store (ty := 3) rfl ?_)
  refine ⟨?_⟩
  refine wpList_store_one rfl _ _ _ rfl (w.heap.size) 9 _ (.int .i64 3) rfl rfl rfl (by kernel_rfl) rfl (RM_S4.out) (by decide) (fun S5 HS_S5 => ?_)
  have X_S5 := Lib.hid (HS_S5.ext w (by (repeat' (with_reducible first | refine Ext.drew ?_ | refine Ext.drewN ?_ _ | refine Ext.alloc ?_ _ | exact Ext.refl _ | exact X_S4.out | exact X_S3.out | exact X_S2.out | exact X_S1.out | exact X_S0.out | exact X_w1.out | (refine Ext.setCell ?_ ?_ _; rotate_left; (focus ((try simp); try omega)))))) (by first | exact Nat.le_refl _ | omega | (simp; done) | (simp; omega)))
  have q0_S5 : S5.cell? ⟨w.heap.size, 0, none⟩ = some (.int .i64 lo) := by rw [HS_S5.off' 0 (by decide)]; go_simp
  have q1_S5 : S5.cell? ⟨w.heap.size, 1, none⟩ = some (.int .i64 hi) := by rw [HS_S5.off' 1 (by decide)]; go_simp
  have q2_S5 : S5.cell? ⟨w.heap.size, 2, none⟩ = some (.int .i64 wa) := by rw [HS_S5.off' 2 (by decide)]; go_simp
  have q3_S5 : S5.cell? ⟨w.heap.size, 3, none⟩ = some (.int .i64 ri) := by rw [HS_S5.off' 3 (by decide)]; go_simp
  have q4_S5 : S5.cell? ⟨w.heap.size, 4, none⟩ = some (.int .i64 ba) := by rw [HS_S5.off' 4 (by decide)]; go_simp
  have q5_S5 : S5.cell? ⟨w.heap.size, 5, none⟩ = some (.int .i64 r) := by rw [HS_S5.off' 5 (by decide)]; go_simp
  have q6_S5 : S5.cell? ⟨w.heap.size, 6, none⟩ = some (.int .i64 wa) := by rw [HS_S5.off' 6 (by decide)]; go_simp
  have q7_S5 : S5.cell? ⟨w.heap.size, 7, none⟩ = some (.int .i64 il) := by rw [HS_S5.off' 7 (by decide)]; go_simp
  have q8_S5 : S5.cell? ⟨w.heap.size, 8, none⟩ = some (.int .i64 (qu + 1)) := by rw [HS_S5.off' 8 (by decide)]; go_simp
  have q9_S5 : S5.cell? ⟨w.heap.size, 9, none⟩ = some (.int .i64 3) := HS_S5.at'
  have q10_S5 : S5.cell? ⟨w.heap.size, 10, none⟩ = some (.bool false) := by rw [HS_S5.off' 10 (by decide)]; go_simp
  have RM_S5 := Lib.hid (HS_S5.room _ _ (RM_S4.out))
  have fz_S5 : ∀ o, S5.frozen? ⟨w.heap.size, o, none⟩ = false := RM_S5.out.2
  have z_S5 : w.heap.size < S5.heap.size := cell_lt q0_S5
  have ST_S5 := Lib.hid HS_S5
  clear HS_S5
  go_wp2_with (refine stop_store (ty := 41) rfl ?_)
  refine ⟨?_⟩
  refine wpList_store_agg rfl _ _ _ rfl (w.heap.size + 1) #[.int .i64 lo, .int .i64 hi, .int .i64 wa, .int .i64 ri, .int .i64 ba, .int .i64 r, .int .i64 wa, .int .i64 il, .int .i64 (qu + 1), .int .i64 3, .bool false] rfl rfl (by kernel_rfl) (by kernel_rfl) (ST_S5.out.room _ _ (ST_S4.out.room _ _ (ST_S3.out.room _ _ (ST_S2.out.room _ _ (ST_S1.out.room _ _ (ST_S0.out.room _ _ (RB1.out))))))) (fun E HS_E => ?_)
  have X_E := Lib.hid (HS_E.ext w (by (repeat' (with_reducible first | refine Ext.drew ?_ | refine Ext.drewN ?_ _ | refine Ext.alloc ?_ _ | exact Ext.refl _ | exact X_S5.out | exact X_S4.out | exact X_S3.out | exact X_S2.out | exact X_S1.out | exact X_S0.out | exact X_w1.out | (refine Ext.setCell ?_ ?_ _; rotate_left; (focus ((try simp); try omega)))))) (by first | exact Nat.le_refl _ | omega | (simp; done) | (simp; omega)))
  have q0_E : E.cell? ⟨w.heap.size + 1, 0, none⟩ = some (.int .i64 lo) := HS_E.at' 0 _ rfl
  have q1_E : E.cell? ⟨w.heap.size + 1, 1, none⟩ = some (.int .i64 hi) := HS_E.at' 1 _ rfl
  have q2_E : E.cell? ⟨w.heap.size + 1, 2, none⟩ = some (.int .i64 wa) := HS_E.at' 2 _ rfl
  have q3_E : E.cell? ⟨w.heap.size + 1, 3, none⟩ = some (.int .i64 ri) := HS_E.at' 3 _ rfl
  have q4_E : E.cell? ⟨w.heap.size + 1, 4, none⟩ = some (.int .i64 ba) := HS_E.at' 4 _ rfl
  have q5_E : E.cell? ⟨w.heap.size + 1, 5, none⟩ = some (.int .i64 r) := HS_E.at' 5 _ rfl
  have q6_E : E.cell? ⟨w.heap.size + 1, 6, none⟩ = some (.int .i64 wa) := HS_E.at' 6 _ rfl
  have q7_E : E.cell? ⟨w.heap.size + 1, 7, none⟩ = some (.int .i64 il) := HS_E.at' 7 _ rfl
  have q8_E : E.cell? ⟨w.heap.size + 1, 8, none⟩ = some (.int .i64 (qu + 1)) := HS_E.at' 8 _ rfl
  have q9_E : E.cell? ⟨w.heap.size + 1, 9, none⟩ = some (.int .i64 3) := HS_E.at' 9 _ rfl
  have q10_E : E.cell? ⟨w.heap.size + 1, 10, none⟩ = some (.bool false) := HS_E.at' 10 _ rfl
  have RM_E := Lib.hid (HS_E.room (ST_S5.out.room _ _ (ST_S4.out.room _ _ (ST_S3.out.room _ _ (ST_S2.out.room _ _ (ST_S1.out.room _ _ (ST_S0.out.room _ _ (RB1.out))))))) (Nat.le_refl _))
  have fz_E : ∀ o, E.frozen? ⟨w.heap.size + 1, o, none⟩ = false := RM_E.out.2
  have z_E : w.heap.size + 1 < E.heap.size := cell_lt q0_E
  have ST_E := Lib.hid HS_E
  clear HS_E
  go_wp2_with fail
  exact bodyPost_ret (v := .tuple #[.agg #[.int .i64 lo, .int .i64 hi, .int .i64 wa, .int .i64 ri, .int .i64 ba, .int .i64 r, .int .i64 wa, .int .i64 il, .int .i64 (qu + 1), .int .i64 3, .bool false], .int .i64 0]) (by simp [results, Try.results26, go_sem, *]) rfl ⟨rfl, by (repeat' (with_reducible first | refine Ext.drew ?_ | refine Ext.drewN ?_ _ | refine Ext.alloc ?_ _ | exact Ext.refl _ | exact X_E.out | exact X_S5.out | exact X_S4.out | exact X_S3.out | exact X_S2.out | exact X_S1.out | exact X_S0.out | exact X_w1.out | (refine Ext.setCell ?_ ?_ _; rotate_left; (focus ((try simp); try omega)))))⟩
set_option maxHeartbeats 4000000 in
theorem additiveref50_Step_rise (lo hi wa ri ba bs cn il qu r t d : Int) (h : GVal lo hi wa ri ba bs cn il qu 0) (r0 : lo ≤ r) (r1 : r ≤ hi) (hq : qu + 1 < il) (d' t' : Int) (hd : d' = max 0 (min d 255)) (ht : t' = max (-1073741824) (min t 1073741824)) (h0 : d' ≠ 0) (h1 : r < t' - ba) (h4 : bs + ri ≤ r) (h5 : 1 < wa) (w : World) :
    Calls Try.prog 26 #[.agg #[.int .i64 lo, .int .i64 hi, .int .i64 wa, .int .i64 ri, .int .i64 ba, .int .i64 bs, .int .i64 cn, .int .i64 il, .int .i64 qu, .int .i64 0, .bool false], .int .i64 r, .int .i64 t, .int .i64 d] w fun e w' => e = .returned (.tuple #[.agg #[.int .i64 lo, .int .i64 hi, .int .i64 wa, .int .i64 ri, .int .i64 ba, .int .i64 r, .int .i64 1, .int .i64 il, .int .i64 (qu + 1), .int .i64 0, .bool false], .int .i64 d']) ∧ Ext w w' := by
  have c1 := Lib.hid fun w => ref_GValid lo hi wa ri ba bs cn il qu 0 false true (by rw [decide_eq_true h]) w
  obtain ⟨b0, b1, b2, b3, b4, b5, b6, b7, b8, b9, b10, b11, b12, b13, b14, b15⟩ := gbnd h
  have q1 : IntKind.i64.wrap (qu + 1) = qu + 1 := IntWalk.i64_in _ (by omega)
  have q2 : IntKind.i64.wrap (bs + ri) = bs + ri := IntWalk.i64_in _ (by omega)
  have q3 : IntKind.i64.wrap (cn + 1) = cn + 1 := IntWalk.i64_in _ (by omega)
  have d1 := dlt_f r0
  have d2 := dlt_f r1
  have d3 := dle_f (show qu + 1 < il by omega)
  have c2 := Lib.hid fun w => ref_clamp t (-1073741824) 1073741824 (by omega) w
  have c3 := Lib.hid fun w => ref_clamp d 0 255 (by omega) w
  rw [← hd] at c3
  rw [← ht] at c2
  have tb : IntKind.i64.wrap (t' - ba) = t' - ba := IntWalk.i64_in _ (by omega)
  have d4 := beq_f h0
  have d5 := dle_f h1
  have d6 := dle_t h4
  have d7 := dle_f h5
  clear hd ht h0 h1 h4 h5
  clear b0 b1 b2 b3 b4 b5 b6 b7 b8 b9 b10 b11 b12 b13 b14 b15 h
  have ra := Lib.hid fun w1 (x : Ext ((w.alloc (.cells #[.int .i64 lo, .int .i64 hi, .int .i64 wa, .int .i64 ri, .int .i64 ba, .int .i64 bs, .int .i64 cn, .int .i64 il, .int .i64 qu, .int .i64 0, .bool false] 41)).alloc (.cells #[.int .i64 0, .int .i64 0, .int .i64 0, .int .i64 0, .int .i64 0, .int .i64 0, .int .i64 0, .int .i64 0, .int .i64 0, .int .i64 0, .bool false] 41)) w1) => ((Room.new w #[.int .i64 lo, .int .i64 hi, .int .i64 wa, .int .i64 ri, .int .i64 ba, .int .i64 bs, .int .i64 cn, .int .i64 il, .int .i64 qu, .int .i64 0, .bool false] 41).alloc (Nat.zero_lt_succ _) (.cells #[.int .i64 0, .int .i64 0, .int .i64 0, .int .i64 0, .int .i64 0, .int .i64 0, .int .i64 0, .int .i64 0, .int .i64 0, .int .i64 0, .bool false] 41)).ext x (Nat.zero_lt_succ _)
  have rb := Lib.hid fun w1 (x : Ext ((w.alloc (.cells #[.int .i64 lo, .int .i64 hi, .int .i64 wa, .int .i64 ri, .int .i64 ba, .int .i64 bs, .int .i64 cn, .int .i64 il, .int .i64 qu, .int .i64 0, .bool false] 41)).alloc (.cells #[.int .i64 0, .int .i64 0, .int .i64 0, .int .i64 0, .int .i64 0, .int .i64 0, .int .i64 0, .int .i64 0, .int .i64 0, .int .i64 0, .bool false] 41)) w1) => (Room.new (w.alloc (.cells #[.int .i64 lo, .int .i64 hi, .int .i64 wa, .int .i64 ri, .int .i64 ba, .int .i64 bs, .int .i64 cn, .int .i64 il, .int .i64 qu, .int .i64 0, .bool false] 41)) #[.int .i64 0, .int .i64 0, .int .i64 0, .int .i64 0, .int .i64 0, .int .i64 0, .int .i64 0, .int .i64 0, .int .i64 0, .int .i64 0, .bool false] 41).ext x (Nat.zero_lt_succ _)
  go_enter Try.func26, Try.ntmps26
  go_wp2_with fail
  refine (c1.out _).mono ?_; rintro e w1 ⟨rfl, x_w1⟩
  have RA1 := Lib.hid (show Room w1 w.heap.size 11 from ra.out w1 x_w1)
  have RB1 := Lib.hid (show Room w1 (w.heap.size + 1) 11 from by simpa using rb.out w1 x_w1)
  have q0_w1 : w1.cell? ⟨w.heap.size, 0, none⟩ = some (.int .i64 lo) := x_w1.keep (by go_simp)
  have q1_w1 : w1.cell? ⟨w.heap.size, 1, none⟩ = some (.int .i64 hi) := x_w1.keep (by go_simp)
  have q2_w1 : w1.cell? ⟨w.heap.size, 2, none⟩ = some (.int .i64 wa) := x_w1.keep (by go_simp)
  have q3_w1 : w1.cell? ⟨w.heap.size, 3, none⟩ = some (.int .i64 ri) := x_w1.keep (by go_simp)
  have q4_w1 : w1.cell? ⟨w.heap.size, 4, none⟩ = some (.int .i64 ba) := x_w1.keep (by go_simp)
  have q5_w1 : w1.cell? ⟨w.heap.size, 5, none⟩ = some (.int .i64 bs) := x_w1.keep (by go_simp)
  have q6_w1 : w1.cell? ⟨w.heap.size, 6, none⟩ = some (.int .i64 cn) := x_w1.keep (by go_simp)
  have q7_w1 : w1.cell? ⟨w.heap.size, 7, none⟩ = some (.int .i64 il) := x_w1.keep (by go_simp)
  have q8_w1 : w1.cell? ⟨w.heap.size, 8, none⟩ = some (.int .i64 qu) := x_w1.keep (by go_simp)
  have q9_w1 : w1.cell? ⟨w.heap.size, 9, none⟩ = some (.int .i64 0) := x_w1.keep (by go_simp)
  have q10_w1 : w1.cell? ⟨w.heap.size, 10, none⟩ = some (.bool false) := x_w1.keep (by go_simp)
  have z_w1 := cell_lt q0_w1
  have z2_w1 : w.heap.size + 1 < w1.heap.size := RB1.out.lt (by decide)
  have X_w1 := Lib.hid (show Ext w w1 from (((Ext.refl w).alloc _).alloc _).trans x_w1)
  clear x_w1 ra rb
  simp only at z_w1
  go_wp2_with fail
  refine (c2.out _).mono ?_; rintro e w' ⟨rfl, rfl⟩
  go_wp2_with fail
  refine (c3.out _).mono ?_; rintro e w' ⟨rfl, rfl⟩
  go_wp2_with (refine stop_store (ty := 3) rfl ?_)
  refine ⟨?_⟩
  refine wpList_store_one rfl _ _ _ rfl (w.heap.size) 8 _ (.int .i64 (qu + 1)) rfl rfl rfl (by kernel_rfl) rfl (RA1.out) (by decide) (fun S0 HS_S0 => ?_)
  have X_S0 := Lib.hid (HS_S0.ext w (by (repeat' (with_reducible first | refine Ext.drew ?_ | refine Ext.drewN ?_ _ | refine Ext.alloc ?_ _ | exact Ext.refl _ | exact X_w1.out | (refine Ext.setCell ?_ ?_ _; rotate_left; (focus ((try simp); try omega)))))) (by first | exact Nat.le_refl _ | omega | (simp; done) | (simp; omega)))
  have q0_S0 : S0.cell? ⟨w.heap.size, 0, none⟩ = some (.int .i64 lo) := by rw [HS_S0.off' 0 (by decide)]; go_simp
  have q1_S0 : S0.cell? ⟨w.heap.size, 1, none⟩ = some (.int .i64 hi) := by rw [HS_S0.off' 1 (by decide)]; go_simp
  have q2_S0 : S0.cell? ⟨w.heap.size, 2, none⟩ = some (.int .i64 wa) := by rw [HS_S0.off' 2 (by decide)]; go_simp
  have q3_S0 : S0.cell? ⟨w.heap.size, 3, none⟩ = some (.int .i64 ri) := by rw [HS_S0.off' 3 (by decide)]; go_simp
  have q4_S0 : S0.cell? ⟨w.heap.size, 4, none⟩ = some (.int .i64 ba) := by rw [HS_S0.off' 4 (by decide)]; go_simp
  have q5_S0 : S0.cell? ⟨w.heap.size, 5, none⟩ = some (.int .i64 bs) := by rw [HS_S0.off' 5 (by decide)]; go_simp
  have q6_S0 : S0.cell? ⟨w.heap.size, 6, none⟩ = some (.int .i64 cn) := by rw [HS_S0.off' 6 (by decide)]; go_simp
  have q7_S0 : S0.cell? ⟨w.heap.size, 7, none⟩ = some (.int .i64 il) := by rw [HS_S0.off' 7 (by decide)]; go_simp
  have q8_S0 : S0.cell? ⟨w.heap.size, 8, none⟩ = some (.int .i64 (qu + 1)) := HS_S0.at'
  have q9_S0 : S0.cell? ⟨w.heap.size, 9, none⟩ = some (.int .i64 0) := by rw [HS_S0.off' 9 (by decide)]; go_simp
  have q10_S0 : S0.cell? ⟨w.heap.size, 10, none⟩ = some (.bool false) := by rw [HS_S0.off' 10 (by decide)]; go_simp
  have RM_S0 := Lib.hid (HS_S0.room _ _ (RA1.out))
  have fz_S0 : ∀ o, S0.frozen? ⟨w.heap.size, o, none⟩ = false := RM_S0.out.2
  have z_S0 : w.heap.size < S0.heap.size := cell_lt q0_S0
  have ST_S0 := Lib.hid HS_S0
  clear HS_S0
  go_wp2_with (refine stop_store (ty := 3) rfl ?_)
  refine ⟨?_⟩
  refine wpList_store_one rfl _ _ _ rfl (w.heap.size) 5 _ (.int .i64 r) rfl rfl rfl (by kernel_rfl) rfl (RM_S0.out) (by decide) (fun S1 HS_S1 => ?_)
  have X_S1 := Lib.hid (HS_S1.ext w (by (repeat' (with_reducible first | refine Ext.drew ?_ | refine Ext.drewN ?_ _ | refine Ext.alloc ?_ _ | exact Ext.refl _ | exact X_S0.out | exact X_w1.out | (refine Ext.setCell ?_ ?_ _; rotate_left; (focus ((try simp); try omega)))))) (by first | exact Nat.le_refl _ | omega | (simp; done) | (simp; omega)))
  have q0_S1 : S1.cell? ⟨w.heap.size, 0, none⟩ = some (.int .i64 lo) := by rw [HS_S1.off' 0 (by decide)]; go_simp
  have q1_S1 : S1.cell? ⟨w.heap.size, 1, none⟩ = some (.int .i64 hi) := by rw [HS_S1.off' 1 (by decide)]; go_simp
  have q2_S1 : S1.cell? ⟨w.heap.size, 2, none⟩ = some (.int .i64 wa) := by rw [HS_S1.off' 2 (by decide)]; go_simp
  have q3_S1 : S1.cell? ⟨w.heap.size, 3, none⟩ = some (.int .i64 ri) := by rw [HS_S1.off' 3 (by decide)]; go_simp
  have q4_S1 : S1.cell? ⟨w.heap.size, 4, none⟩ = some (.int .i64 ba) := by rw [HS_S1.off' 4 (by decide)]; go_simp
  have q5_S1 : S1.cell? ⟨w.heap.size, 5, none⟩ = some (.int .i64 r) := HS_S1.at'
  have q6_S1 : S1.cell? ⟨w.heap.size, 6, none⟩ = some (.int .i64 cn) := by rw [HS_S1.off' 6 (by decide)]; go_simp
  have q7_S1 : S1.cell? ⟨w.heap.size, 7, none⟩ = some (.int .i64 il) := by rw [HS_S1.off' 7 (by decide)]; go_simp
  have q8_S1 : S1.cell? ⟨w.heap.size, 8, none⟩ = some (.int .i64 (qu + 1)) := by rw [HS_S1.off' 8 (by decide)]; go_simp
  have q9_S1 : S1.cell? ⟨w.heap.size, 9, none⟩ = some (.int .i64 0) := by rw [HS_S1.off' 9 (by decide)]; go_simp
  have q10_S1 : S1.cell? ⟨w.heap.size, 10, none⟩ = some (.bool false) := by rw [HS_S1.off' 10 (by decide)]; go_simp
  have RM_S1 := Lib.hid (HS_S1.room _ _ (RM_S0.out))
  have fz_S1 : ∀ o, S1.frozen? ⟨w.heap.size, o, none⟩ = false := RM_S1.out.2
  have z_S1 : w.heap.size < S1.heap.size := cell_lt q0_S1
  have ST_S1 := Lib.hid HS_S1
  clear HS_S1
  go_wp2_with (refine stop_store (ty := 3) rfl ?_)
  refine ⟨?_⟩
  refine wpList_store_one rfl _ _ _ rfl (w.heap.size) 6 _ (.int .i64 0) rfl rfl rfl (by kernel_rfl) rfl (RM_S1.out) (by decide) (fun S2 HS_S2 => ?_)
  have X_S2 := Lib.hid (HS_S2.ext w (by (repeat' (with_reducible first | refine Ext.drew ?_ | refine Ext.drewN ?_ _ | refine Ext.alloc ?_ _ | exact Ext.refl _ | exact X_S1.out | exact X_S0.out | exact X_w1.out | (refine Ext.setCell ?_ ?_ _; rotate_left; (focus ((try simp); try omega)))))) (by first | exact Nat.le_refl _ | omega | (simp; done) | (simp; omega)))
  have q0_S2 : S2.cell? ⟨w.heap.size, 0, none⟩ = some (.int .i64 lo) := by rw [HS_S2.off' 0 (by decide)]; go_simp
  have q1_S2 : S2.cell? ⟨w.heap.size, 1, none⟩ = some (.int .i64 hi) := by rw [HS_S2.off' 1 (by decide)]; go_simp
  have q2_S2 : S2.cell? ⟨w.heap.size, 2, none⟩ = some (.int .i64 wa) := by rw [HS_S2.off' 2 (by decide)]; go_simp
  have q3_S2 : S2.cell? ⟨w.heap.size, 3, none⟩ = some (.int .i64 ri) := by rw [HS_S2.off' 3 (by decide)]; go_simp
  have q4_S2 : S2.cell? ⟨w.heap.size, 4, none⟩ = some (.int .i64 ba) := by rw [HS_S2.off' 4 (by decide)]; go_simp
  have q5_S2 : S2.cell? ⟨w.heap.size, 5, none⟩ = some (.int .i64 r) := by rw [HS_S2.off' 5 (by decide)]; go_simp
  have q6_S2 : S2.cell? ⟨w.heap.size, 6, none⟩ = some (.int .i64 0) := HS_S2.at'
  have q7_S2 : S2.cell? ⟨w.heap.size, 7, none⟩ = some (.int .i64 il) := by rw [HS_S2.off' 7 (by decide)]; go_simp
  have q8_S2 : S2.cell? ⟨w.heap.size, 8, none⟩ = some (.int .i64 (qu + 1)) := by rw [HS_S2.off' 8 (by decide)]; go_simp
  have q9_S2 : S2.cell? ⟨w.heap.size, 9, none⟩ = some (.int .i64 0) := by rw [HS_S2.off' 9 (by decide)]; go_simp
  have q10_S2 : S2.cell? ⟨w.heap.size, 10, none⟩ = some (.bool false) := by rw [HS_S2.off' 10 (by decide)]; go_simp
  have RM_S2 := Lib.hid (HS_S2.room _ _ (RM_S1.out))
  have fz_S2 : ∀ o, S2.frozen? ⟨w.heap.size, o, none⟩ = false := RM_S2.out.2
  have z_S2 : w.heap.size < S2.heap.size := cell_lt q0_S2
  have ST_S2 := Lib.hid HS_S2
  clear HS_S2
  go_wp2_with (refine stop_store (ty := 3) rfl ?_)
  refine ⟨?_⟩
  refine wpList_store_one rfl _ _ _ rfl (w.heap.size) 6 _ (.int .i64 1) rfl rfl rfl (by kernel_rfl) rfl (RM_S2.out) (by decide) (fun S3 HS_S3 => ?_)
  have X_S3 := Lib.hid (HS_S3.ext w (by (repeat' (with_reducible first | refine Ext.drew ?_ | refine Ext.drewN ?_ _ | refine Ext.alloc ?_ _ | exact Ext.refl _ | exact X_S2.out | exact X_S1.out | exact X_S0.out | exact X_w1.out | (refine Ext.setCell ?_ ?_ _; rotate_left; (focus ((try simp); try omega)))))) (by first | exact Nat.le_refl _ | omega | (simp; done) | (simp; omega)))
  have q0_S3 : S3.cell? ⟨w.heap.size, 0, none⟩ = some (.int .i64 lo) := by rw [HS_S3.off' 0 (by decide)]; go_simp
  have q1_S3 : S3.cell? ⟨w.heap.size, 1, none⟩ = some (.int .i64 hi) := by rw [HS_S3.off' 1 (by decide)]; go_simp
  have q2_S3 : S3.cell? ⟨w.heap.size, 2, none⟩ = some (.int .i64 wa) := by rw [HS_S3.off' 2 (by decide)]; go_simp
  have q3_S3 : S3.cell? ⟨w.heap.size, 3, none⟩ = some (.int .i64 ri) := by rw [HS_S3.off' 3 (by decide)]; go_simp
  have q4_S3 : S3.cell? ⟨w.heap.size, 4, none⟩ = some (.int .i64 ba) := by rw [HS_S3.off' 4 (by decide)]; go_simp
  have q5_S3 : S3.cell? ⟨w.heap.size, 5, none⟩ = some (.int .i64 r) := by rw [HS_S3.off' 5 (by decide)]; go_simp
  have q6_S3 : S3.cell? ⟨w.heap.size, 6, none⟩ = some (.int .i64 1) := HS_S3.at'
  have q7_S3 : S3.cell? ⟨w.heap.size, 7, none⟩ = some (.int .i64 il) := by rw [HS_S3.off' 7 (by decide)]; go_simp
  have q8_S3 : S3.cell? ⟨w.heap.size, 8, none⟩ = some (.int .i64 (qu + 1)) := by rw [HS_S3.off' 8 (by decide)]; go_simp
  have q9_S3 : S3.cell? ⟨w.heap.size, 9, none⟩ = some (.int .i64 0) := by rw [HS_S3.off' 9 (by decide)]; go_simp
  have q10_S3 : S3.cell? ⟨w.heap.size, 10, none⟩ = some (.bool false) := by rw [HS_S3.off' 10 (by decide)]; go_simp
  have RM_S3 := Lib.hid (HS_S3.room _ _ (RM_S2.out))
  have fz_S3 : ∀ o, S3.frozen? ⟨w.heap.size, o, none⟩ = false := RM_S3.out.2
  have z_S3 : w.heap.size < S3.heap.size := cell_lt q0_S3
  have ST_S3 := Lib.hid HS_S3
  clear HS_S3
  go_wp2_with (refine stop_store (ty := 41) rfl ?_)
  refine ⟨?_⟩
  refine wpList_store_agg rfl _ _ _ rfl (w.heap.size + 1) #[.int .i64 lo, .int .i64 hi, .int .i64 wa, .int .i64 ri, .int .i64 ba, .int .i64 r, .int .i64 1, .int .i64 il, .int .i64 (qu + 1), .int .i64 0, .bool false] rfl rfl (by kernel_rfl) (by kernel_rfl) (ST_S3.out.room _ _ (ST_S2.out.room _ _ (ST_S1.out.room _ _ (ST_S0.out.room _ _ (RB1.out))))) (fun E HS_E => ?_)
  have X_E := Lib.hid (HS_E.ext w (by (repeat' (with_reducible first | refine Ext.drew ?_ | refine Ext.drewN ?_ _ | refine Ext.alloc ?_ _ | exact Ext.refl _ | exact X_S3.out | exact X_S2.out | exact X_S1.out | exact X_S0.out | exact X_w1.out | (refine Ext.setCell ?_ ?_ _; rotate_left; (focus ((try simp); try omega)))))) (by first | exact Nat.le_refl _ | omega | (simp; done) | (simp; omega)))
  have q0_E : E.cell? ⟨w.heap.size + 1, 0, none⟩ = some (.int .i64 lo) := HS_E.at' 0 _ rfl
  have q1_E : E.cell? ⟨w.heap.size + 1, 1, none⟩ = some (.int .i64 hi) := HS_E.at' 1 _ rfl
  have q2_E : E.cell? ⟨w.heap.size + 1, 2, none⟩ = some (.int .i64 wa) := HS_E.at' 2 _ rfl
  have q3_E : E.cell? ⟨w.heap.size + 1, 3, none⟩ = some (.int .i64 ri) := HS_E.at' 3 _ rfl
  have q4_E : E.cell? ⟨w.heap.size + 1, 4, none⟩ = some (.int .i64 ba) := HS_E.at' 4 _ rfl
  have q5_E : E.cell? ⟨w.heap.size + 1, 5, none⟩ = some (.int .i64 r) := HS_E.at' 5 _ rfl
  have q6_E : E.cell? ⟨w.heap.size + 1, 6, none⟩ = some (.int .i64 1) := HS_E.at' 6 _ rfl
  have q7_E : E.cell? ⟨w.heap.size + 1, 7, none⟩ = some (.int .i64 il) := HS_E.at' 7 _ rfl
  have q8_E : E.cell? ⟨w.heap.size + 1, 8, none⟩ = some (.int .i64 (qu + 1)) := HS_E.at' 8 _ rfl
  have q9_E : E.cell? ⟨w.heap.size + 1, 9, none⟩ = some (.int .i64 0) := HS_E.at' 9 _ rfl
  have q10_E : E.cell? ⟨w.heap.size + 1, 10, none⟩ = some (.bool false) := HS_E.at' 10 _ rfl
  have RM_E := Lib.hid (HS_E.room (ST_S3.out.room _ _ (ST_S2.out.room _ _ (ST_S1.out.room _ _ (ST_S0.out.room _ _ (RB1.out))))) (Nat.le_refl _))
  have fz_E : ∀ o, E.frozen? ⟨w.heap.size + 1, o, none⟩ = false := RM_E.out.2
  have z_E : w.heap.size + 1 < E.heap.size := cell_lt q0_E
  have ST_E := Lib.hid HS_E
  clear HS_E
  go_wp2_with fail
  exact bodyPost_ret (v := .tuple #[.agg #[.int .i64 lo, .int .i64 hi, .int .i64 wa, .int .i64 ri, .int .i64 ba, .int .i64 r, .int .i64 1, .int .i64 il, .int .i64 (qu + 1), .int .i64 0, .bool false], .int .i64 d']) (by simp [results, Try.results26, go_sem, *]) rfl ⟨rfl, by (repeat' (with_reducible first | refine Ext.drew ?_ | refine Ext.drewN ?_ _ | refine Ext.alloc ?_ _ | exact Ext.refl _ | exact X_E.out | exact X_S3.out | exact X_S2.out | exact X_S1.out | exact X_S0.out | exact X_w1.out | (refine Ext.setCell ?_ ?_ _; rotate_left; (focus ((try simp); try omega)))))⟩
set_option maxHeartbeats 4000000 in
theorem additiveref50_Step_stay_no (lo hi wa ri ba bs cn il qu r t d : Int) (h : GVal lo hi wa ri ba bs cn il qu 0) (r0 : lo ≤ r) (r1 : r ≤ hi) (hq : qu + 1 < il) (d' t' : Int) (hd : d' = max 0 (min d 255)) (ht : t' = max (-1073741824) (min t 1073741824)) (h0 : d' ≠ 0) (h1 : r < t' - ba) (h4 : r < bs + ri) (h5 : wa ≤ cn + 1) (w : World) :
    Calls Try.prog 26 #[.agg #[.int .i64 lo, .int .i64 hi, .int .i64 wa, .int .i64 ri, .int .i64 ba, .int .i64 bs, .int .i64 cn, .int .i64 il, .int .i64 qu, .int .i64 0, .bool false], .int .i64 r, .int .i64 t, .int .i64 d] w fun e w' => e = .returned (.tuple #[.agg #[.int .i64 lo, .int .i64 hi, .int .i64 wa, .int .i64 ri, .int .i64 ba, .int .i64 bs, .int .i64 wa, .int .i64 il, .int .i64 (qu + 1), .int .i64 3, .bool false], .int .i64 0]) ∧ Ext w w' := by
  have c1 := Lib.hid fun w => ref_GValid lo hi wa ri ba bs cn il qu 0 false true (by rw [decide_eq_true h]) w
  obtain ⟨b0, b1, b2, b3, b4, b5, b6, b7, b8, b9, b10, b11, b12, b13, b14, b15⟩ := gbnd h
  have q1 : IntKind.i64.wrap (qu + 1) = qu + 1 := IntWalk.i64_in _ (by omega)
  have q2 : IntKind.i64.wrap (bs + ri) = bs + ri := IntWalk.i64_in _ (by omega)
  have q3 : IntKind.i64.wrap (cn + 1) = cn + 1 := IntWalk.i64_in _ (by omega)
  have d1 := dlt_f r0
  have d2 := dlt_f r1
  have d3 := dle_f (show qu + 1 < il by omega)
  have c2 := Lib.hid fun w => ref_clamp t (-1073741824) 1073741824 (by omega) w
  have c3 := Lib.hid fun w => ref_clamp d 0 255 (by omega) w
  rw [← hd] at c3
  rw [← ht] at c2
  have tb : IntKind.i64.wrap (t' - ba) = t' - ba := IntWalk.i64_in _ (by omega)
  have d4 := beq_f h0
  have d5 := dle_f h1
  have d6 := dle_f h4
  have d7 := dle_t h5
  clear hd ht h0 h1 h4 h5
  clear b0 b1 b2 b3 b4 b5 b6 b7 b8 b9 b10 b11 b12 b13 b14 b15 h
  have ra := Lib.hid fun w1 (x : Ext ((w.alloc (.cells #[.int .i64 lo, .int .i64 hi, .int .i64 wa, .int .i64 ri, .int .i64 ba, .int .i64 bs, .int .i64 cn, .int .i64 il, .int .i64 qu, .int .i64 0, .bool false] 41)).alloc (.cells #[.int .i64 0, .int .i64 0, .int .i64 0, .int .i64 0, .int .i64 0, .int .i64 0, .int .i64 0, .int .i64 0, .int .i64 0, .int .i64 0, .bool false] 41)) w1) => ((Room.new w #[.int .i64 lo, .int .i64 hi, .int .i64 wa, .int .i64 ri, .int .i64 ba, .int .i64 bs, .int .i64 cn, .int .i64 il, .int .i64 qu, .int .i64 0, .bool false] 41).alloc (Nat.zero_lt_succ _) (.cells #[.int .i64 0, .int .i64 0, .int .i64 0, .int .i64 0, .int .i64 0, .int .i64 0, .int .i64 0, .int .i64 0, .int .i64 0, .int .i64 0, .bool false] 41)).ext x (Nat.zero_lt_succ _)
  have rb := Lib.hid fun w1 (x : Ext ((w.alloc (.cells #[.int .i64 lo, .int .i64 hi, .int .i64 wa, .int .i64 ri, .int .i64 ba, .int .i64 bs, .int .i64 cn, .int .i64 il, .int .i64 qu, .int .i64 0, .bool false] 41)).alloc (.cells #[.int .i64 0, .int .i64 0, .int .i64 0, .int .i64 0, .int .i64 0, .int .i64 0, .int .i64 0, .int .i64 0, .int .i64 0, .int .i64 0, .bool false] 41)) w1) => (Room.new (w.alloc (.cells #[.int .i64 lo, .int .i64 hi, .int .i64 wa, .int .i64 ri, .int .i64 ba, .int .i64 bs, .int .i64 cn, .int .i64 il, .int .i64 qu, .int .i64 0, .bool false] 41)) #[.int .i64 0, .int .i64 0, .int .i64 0, .int .i64 0, .int .i64 0, .int .i64 0, .int .i64 0, .int .i64 0, .int .i64 0, .int .i64 0, .bool false] 41).ext x (Nat.zero_lt_succ _)
  go_enter Try.func26, Try.ntmps26
  go_wp2_with fail
  refine (c1.out _).mono ?_; rintro e w1 ⟨rfl, x_w1⟩
  have RA1 := Lib.hid (show Room w1 w.heap.size 11 from ra.out w1 x_w1)
  have RB1 := Lib.hid (show Room w1 (w.heap.size + 1) 11 from by simpa using rb.out w1 x_w1)
  have q0_w1 : w1.cell? ⟨w.heap.size, 0, none⟩ = some (.int .i64 lo) := x_w1.keep (by go_simp)
  have q1_w1 : w1.cell? ⟨w.heap.size, 1, none⟩ = some (.int .i64 hi) := x_w1.keep (by go_simp)
  have q2_w1 : w1.cell? ⟨w.heap.size, 2, none⟩ = some (.int .i64 wa) := x_w1.keep (by go_simp)
  have q3_w1 : w1.cell? ⟨w.heap.size, 3, none⟩ = some (.int .i64 ri) := x_w1.keep (by go_simp)
  have q4_w1 : w1.cell? ⟨w.heap.size, 4, none⟩ = some (.int .i64 ba) := x_w1.keep (by go_simp)
  have q5_w1 : w1.cell? ⟨w.heap.size, 5, none⟩ = some (.int .i64 bs) := x_w1.keep (by go_simp)
  have q6_w1 : w1.cell? ⟨w.heap.size, 6, none⟩ = some (.int .i64 cn) := x_w1.keep (by go_simp)
  have q7_w1 : w1.cell? ⟨w.heap.size, 7, none⟩ = some (.int .i64 il) := x_w1.keep (by go_simp)
  have q8_w1 : w1.cell? ⟨w.heap.size, 8, none⟩ = some (.int .i64 qu) := x_w1.keep (by go_simp)
  have q9_w1 : w1.cell? ⟨w.heap.size, 9, none⟩ = some (.int .i64 0) := x_w1.keep (by go_simp)
  have q10_w1 : w1.cell? ⟨w.heap.size, 10, none⟩ = some (.bool false) := x_w1.keep (by go_simp)
  have z_w1 := cell_lt q0_w1
  have z2_w1 : w.heap.size + 1 < w1.heap.size := RB1.out.lt (by decide)
  have X_w1 := Lib.hid (show Ext w w1 from (((Ext.refl w).alloc _).alloc _).trans x_w1)
  clear x_w1 ra rb
  simp only at z_w1
  go_wp2_with fail
  refine (c2.out _).mono ?_; rintro e w' ⟨rfl, rfl⟩
  go_wp2_with fail
  refine (c3.out _).mono ?_; rintro e w' ⟨rfl, rfl⟩
  go_wp2_with (refine stop_store (ty := 3) rfl ?_)
  refine ⟨?_⟩
  refine wpList_store_one rfl _ _ _ rfl (w.heap.size) 8 _ (.int .i64 (qu + 1)) rfl rfl rfl (by kernel_rfl) rfl (RA1.out) (by decide) (fun S0 HS_S0 => ?_)
  have X_S0 := Lib.hid (HS_S0.ext w (by (repeat' (with_reducible first | refine Ext.drew ?_ | refine Ext.drewN ?_ _ | refine Ext.alloc ?_ _ | exact Ext.refl _ | exact X_w1.out | (refine Ext.setCell ?_ ?_ _; rotate_left; (focus ((try simp); try omega)))))) (by first | exact Nat.le_refl _ | omega | (simp; done) | (simp; omega)))
  have q0_S0 : S0.cell? ⟨w.heap.size, 0, none⟩ = some (.int .i64 lo) := by rw [HS_S0.off' 0 (by decide)]; go_simp
  have q1_S0 : S0.cell? ⟨w.heap.size, 1, none⟩ = some (.int .i64 hi) := by rw [HS_S0.off' 1 (by decide)]; go_simp
  have q2_S0 : S0.cell? ⟨w.heap.size, 2, none⟩ = some (.int .i64 wa) := by rw [HS_S0.off' 2 (by decide)]; go_simp
  have q3_S0 : S0.cell? ⟨w.heap.size, 3, none⟩ = some (.int .i64 ri) := by rw [HS_S0.off' 3 (by decide)]; go_simp
  have q4_S0 : S0.cell? ⟨w.heap.size, 4, none⟩ = some (.int .i64 ba) := by rw [HS_S0.off' 4 (by decide)]; go_simp
  have q5_S0 : S0.cell? ⟨w.heap.size, 5, none⟩ = some (.int .i64 bs) := by rw [HS_S0.off' 5 (by decide)]; go_simp
  have q6_S0 : S0.cell? ⟨w.heap.size, 6, none⟩ = some (.int .i64 cn) := by rw [HS_S0.off' 6 (by decide)]; go_simp
  have q7_S0 : S0.cell? ⟨w.heap.size, 7, none⟩ = some (.int .i64 il) := by rw [HS_S0.off' 7 (by decide)]; go_simp
  have q8_S0 : S0.cell? ⟨w.heap.size, 8, none⟩ = some (.int .i64 (qu + 1)) := HS_S0.at'
  have q9_S0 : S0.cell? ⟨w.heap.size, 9, none⟩ = some (.int .i64 0) := by rw [HS_S0.off' 9 (by decide)]; go_simp
  have q10_S0 : S0.cell? ⟨w.heap.size, 10, none⟩ = some (.bool false) := by rw [HS_S0.off' 10 (by decide)]; go_simp
  have RM_S0 := Lib.hid (HS_S0.room _ _ (RA1.out))
  have fz_S0 : ∀ o, S0.frozen? ⟨w.heap.size, o, none⟩ = false := RM_S0.out.2
  have z_S0 : w.heap.size < S0.heap.size := cell_lt q0_S0
  have ST_S0 := Lib.hid HS_S0
  clear HS_S0
  go_wp2_with (refine stop_store (ty := 3) rfl ?_)
  refine ⟨?_⟩
  refine wpList_store_one rfl _ _ _ rfl (w.heap.size) 6 _ (.int .i64 (cn + 1)) rfl rfl rfl (by kernel_rfl) rfl (RM_S0.out) (by decide) (fun S1 HS_S1 => ?_)
  have X_S1 := Lib.hid (HS_S1.ext w (by (repeat' (with_reducible first | refine Ext.drew ?_ | refine Ext.drewN ?_ _ | refine Ext.alloc ?_ _ | exact Ext.refl _ | exact X_S0.out | exact X_w1.out | (refine Ext.setCell ?_ ?_ _; rotate_left; (focus ((try simp); try omega)))))) (by first | exact Nat.le_refl _ | omega | (simp; done) | (simp; omega)))
  have q0_S1 : S1.cell? ⟨w.heap.size, 0, none⟩ = some (.int .i64 lo) := by rw [HS_S1.off' 0 (by decide)]; go_simp
  have q1_S1 : S1.cell? ⟨w.heap.size, 1, none⟩ = some (.int .i64 hi) := by rw [HS_S1.off' 1 (by decide)]; go_simp
  have q2_S1 : S1.cell? ⟨w.heap.size, 2, none⟩ = some (.int .i64 wa) := by rw [HS_S1.off' 2 (by decide)]; go_simp
  have q3_S1 : S1.cell? ⟨w.heap.size, 3, none⟩ = some (.int .i64 ri) := by rw [HS_S1.off' 3 (by decide)]; go_simp
  have q4_S1 : S1.cell? ⟨w.heap.size, 4, none⟩ = some (.int .i64 ba) := by rw [HS_S1.off' 4 (by decide)]; go_simp
  have q5_S1 : S1.cell? ⟨w.heap.size, 5, none⟩ = some (.int .i64 bs) := by rw [HS_S1.off' 5 (by decide)]; go_simp
  have q6_S1 : S1.cell? ⟨w.heap.size, 6, none⟩ = some (.int .i64 (cn + 1)) := HS_S1.at'
  have q7_S1 : S1.cell? ⟨w.heap.size, 7, none⟩ = some (.int .i64 il) := by rw [HS_S1.off' 7 (by decide)]; go_simp
  have q8_S1 : S1.cell? ⟨w.heap.size, 8, none⟩ = some (.int .i64 (qu + 1)) := by rw [HS_S1.off' 8 (by decide)]; go_simp
  have q9_S1 : S1.cell? ⟨w.heap.size, 9, none⟩ = some (.int .i64 0) := by rw [HS_S1.off' 9 (by decide)]; go_simp
  have q10_S1 : S1.cell? ⟨w.heap.size, 10, none⟩ = some (.bool false) := by rw [HS_S1.off' 10 (by decide)]; go_simp
  have RM_S1 := Lib.hid (HS_S1.room _ _ (RM_S0.out))
  have fz_S1 : ∀ o, S1.frozen? ⟨w.heap.size, o, none⟩ = false := RM_S1.out.2
  have z_S1 : w.heap.size < S1.heap.size := cell_lt q0_S1
  have ST_S1 := Lib.hid HS_S1
  clear HS_S1
  go_wp2_with (refine stop_store (ty := 3) rfl ?_)
  refine ⟨?_⟩
  refine wpList_store_one rfl _ _ _ rfl (w.heap.size) 6 _ (.int .i64 wa) rfl rfl rfl (by kernel_rfl) rfl (RM_S1.out) (by decide) (fun S2 HS_S2 => ?_)
  have X_S2 := Lib.hid (HS_S2.ext w (by (repeat' (with_reducible first | refine Ext.drew ?_ | refine Ext.drewN ?_ _ | refine Ext.alloc ?_ _ | exact Ext.refl _ | exact X_S1.out | exact X_S0.out | exact X_w1.out | (refine Ext.setCell ?_ ?_ _; rotate_left; (focus ((try simp); try omega)))))) (by first | exact Nat.le_refl _ | omega | (simp; done) | (simp; omega)))
  have q0_S2 : S2.cell? ⟨w.heap.size, 0, none⟩ = some (.int .i64 lo) := by rw [HS_S2.off' 0 (by decide)]; go_simp
  have q1_S2 : S2.cell? ⟨w.heap.size, 1, none⟩ = some (.int .i64 hi) := by rw [HS_S2.off' 1 (by decide)]; go_simp
  have q2_S2 : S2.cell? ⟨w.heap.size, 2, none⟩ = some (.int .i64 wa) := by rw [HS_S2.off' 2 (by decide)]; go_simp
  have q3_S2 : S2.cell? ⟨w.heap.size, 3, none⟩ = some (.int .i64 ri) := by rw [HS_S2.off' 3 (by decide)]; go_simp
  have q4_S2 : S2.cell? ⟨w.heap.size, 4, none⟩ = some (.int .i64 ba) := by rw [HS_S2.off' 4 (by decide)]; go_simp
  have q5_S2 : S2.cell? ⟨w.heap.size, 5, none⟩ = some (.int .i64 bs) := by rw [HS_S2.off' 5 (by decide)]; go_simp
  have q6_S2 : S2.cell? ⟨w.heap.size, 6, none⟩ = some (.int .i64 wa) := HS_S2.at'
  have q7_S2 : S2.cell? ⟨w.heap.size, 7, none⟩ = some (.int .i64 il) := by rw [HS_S2.off' 7 (by decide)]; go_simp
  have q8_S2 : S2.cell? ⟨w.heap.size, 8, none⟩ = some (.int .i64 (qu + 1)) := by rw [HS_S2.off' 8 (by decide)]; go_simp
  have q9_S2 : S2.cell? ⟨w.heap.size, 9, none⟩ = some (.int .i64 0) := by rw [HS_S2.off' 9 (by decide)]; go_simp
  have q10_S2 : S2.cell? ⟨w.heap.size, 10, none⟩ = some (.bool false) := by rw [HS_S2.off' 10 (by decide)]; go_simp
  have RM_S2 := Lib.hid (HS_S2.room _ _ (RM_S1.out))
  have fz_S2 : ∀ o, S2.frozen? ⟨w.heap.size, o, none⟩ = false := RM_S2.out.2
  have z_S2 : w.heap.size < S2.heap.size := cell_lt q0_S2
  have ST_S2 := Lib.hid HS_S2
  clear HS_S2
  go_wp2_with (refine stop_store (ty := 3) rfl ?_)
  refine ⟨?_⟩
  refine wpList_store_one rfl _ _ _ rfl (w.heap.size) 9 _ (.int .i64 3) rfl rfl rfl (by kernel_rfl) rfl (RM_S2.out) (by decide) (fun S3 HS_S3 => ?_)
  have X_S3 := Lib.hid (HS_S3.ext w (by (repeat' (with_reducible first | refine Ext.drew ?_ | refine Ext.drewN ?_ _ | refine Ext.alloc ?_ _ | exact Ext.refl _ | exact X_S2.out | exact X_S1.out | exact X_S0.out | exact X_w1.out | (refine Ext.setCell ?_ ?_ _; rotate_left; (focus ((try simp); try omega)))))) (by first | exact Nat.le_refl _ | omega | (simp; done) | (simp; omega)))
  have q0_S3 : S3.cell? ⟨w.heap.size, 0, none⟩ = some (.int .i64 lo) := by rw [HS_S3.off' 0 (by decide)]; go_simp
  have q1_S3 : S3.cell? ⟨w.heap.size, 1, none⟩ = some (.int .i64 hi) := by rw [HS_S3.off' 1 (by decide)]; go_simp
  have q2_S3 : S3.cell? ⟨w.heap.size, 2, none⟩ = some (.int .i64 wa) := by rw [HS_S3.off' 2 (by decide)]; go_simp
  have q3_S3 : S3.cell? ⟨w.heap.size, 3, none⟩ = some (.int .i64 ri) := by rw [HS_S3.off' 3 (by decide)]; go_simp
  have q4_S3 : S3.cell? ⟨w.heap.size, 4, none⟩ = some (.int .i64 ba) := by rw [HS_S3.off' 4 (by decide)]; go_simp
  have q5_S3 : S3.cell? ⟨w.heap.size, 5, none⟩ = some (.int .i64 bs) := by rw [HS_S3.off' 5 (by decide)]; go_simp
  have q6_S3 : S3.cell? ⟨w.heap.size, 6, none⟩ = some (.int .i64 wa) := by rw [HS_S3.off' 6 (by decide)]; go_simp
  have q7_S3 : S3.cell? ⟨w.heap.size, 7, none⟩ = some (.int .i64 il) := by rw [HS_S3.off' 7 (by decide)]; go_simp
  have q8_S3 : S3.cell? ⟨w.heap.size, 8, none⟩ = some (.int .i64 (qu + 1)) := by rw [HS_S3.off' 8 (by decide)]; go_simp
  have q9_S3 : S3.cell? ⟨w.heap.size, 9, none⟩ = some (.int .i64 3) := HS_S3.at'
  have q10_S3 : S3.cell? ⟨w.heap.size, 10, none⟩ = some (.bool false) := by rw [HS_S3.off' 10 (by decide)]; go_simp
  have RM_S3 := Lib.hid (HS_S3.room _ _ (RM_S2.out))
  have fz_S3 : ∀ o, S3.frozen? ⟨w.heap.size, o, none⟩ = false := RM_S3.out.2
  have z_S3 : w.heap.size < S3.heap.size := cell_lt q0_S3
  have ST_S3 := Lib.hid HS_S3
  clear HS_S3
  go_wp2_with (refine stop_store (ty := 41) rfl ?_)
  refine ⟨?_⟩
  refine wpList_store_agg rfl _ _ _ rfl (w.heap.size + 1) #[.int .i64 lo, .int .i64 hi, .int .i64 wa, .int .i64 ri, .int .i64 ba, .int .i64 bs, .int .i64 wa, .int .i64 il, .int .i64 (qu + 1), .int .i64 3, .bool false] rfl rfl (by kernel_rfl) (by kernel_rfl) (ST_S3.out.room _ _ (ST_S2.out.room _ _ (ST_S1.out.room _ _ (ST_S0.out.room _ _ (RB1.out))))) (fun E HS_E => ?_)
  have X_E := Lib.hid (HS_E.ext w (by (repeat' (with_reducible first | refine Ext.drew ?_ | refine Ext.drewN ?_ _ | refine Ext.alloc ?_ _ | exact Ext.refl _ | exact X_S3.out | exact X_S2.out | exact X_S1.out | exact X_S0.out | exact X_w1.out | (refine Ext.setCell ?_ ?_ _; rotate_left; (focus ((try simp); try omega)))))) (by first | exact Nat.le_refl _ | omega | (simp; done) | (simp; omega)))
  have q0_E : E.cell? ⟨w.heap.size + 1, 0, none⟩ = some (.int .i64 lo) := HS_E.at' 0 _ rfl
  have q1_E : E.cell? ⟨w.heap.size + 1, 1, none⟩ = some (.int .i64 hi) := HS_E.at' 1 _ rfl
  have q2_E : E.cell? ⟨w.heap.size + 1, 2, none⟩ = some (.int .i64 wa) := HS_E.at' 2 _ rfl
  have q3_E : E.cell? ⟨w.heap.size + 1, 3, none⟩ = some (.int .i64 ri) := HS_E.at' 3 _ rfl
  have q4_E : E.cell? ⟨w.heap.size + 1, 4, none⟩ = some (.int .i64 ba) := HS_E.at' 4 _ rfl
  have q5_E : E.cell? ⟨w.heap.size + 1, 5, none⟩ = some (.int .i64 bs) := HS_E.at' 5 _ rfl
  have q6_E : E.cell? ⟨w.heap.size + 1, 6, none⟩ = some (.int .i64 wa) := HS_E.at' 6 _ rfl
  have q7_E : E.cell? ⟨w.heap.size + 1, 7, none⟩ = some (.int .i64 il) := HS_E.at' 7 _ rfl
  have q8_E : E.cell? ⟨w.heap.size + 1, 8, none⟩ = some (.int .i64 (qu + 1)) := HS_E.at' 8 _ rfl
  have q9_E : E.cell? ⟨w.heap.size + 1, 9, none⟩ = some (.int .i64 3) := HS_E.at' 9 _ rfl
  have q10_E : E.cell? ⟨w.heap.size + 1, 10, none⟩ = some (.bool false) := HS_E.at' 10 _ rfl
  have RM_E := Lib.hid (HS_E.room (ST_S3.out.room _ _ (ST_S2.out.room _ _ (ST_S1.out.room _ _ (ST_S0.out.room _ _ (RB1.out))))) (Nat.le_refl _))
  have fz_E : ∀ o, E.frozen? ⟨w.heap.size + 1, o, none⟩ = false := RM_E.out.2
  have z_E : w.heap.size + 1 < E.heap.size := cell_lt q0_E
  have ST_E := Lib.hid HS_E
  clear HS_E
  go_wp2_with fail
  exact bodyPost_ret (v := .tuple #[.agg #[.int .i64 lo, .int .i64 hi, .int .i64 wa, .int .i64 ri, .int .i64 ba, .int .i64 bs, .int .i64 wa, .int .i64 il, .int .i64 (qu + 1), .int .i64 3, .bool false], .int .i64 0]) (by simp [results, Try.results26, go_sem, *]) rfl ⟨rfl, by (repeat' (with_reducible first | refine Ext.drew ?_ | refine Ext.drewN ?_ _ | refine Ext.alloc ?_ _ | exact Ext.refl _ | exact X_E.out | exact X_S3.out | exact X_S2.out | exact X_S1.out | exact X_S0.out | exact X_w1.out | (refine Ext.setCell ?_ ?_ _; rotate_left; (focus ((try simp); try omega)))))⟩
set_option maxHeartbeats 4000000 in
theorem additiveref50_Step_stay (lo hi wa ri ba bs cn il qu r t d : Int) (h : GVal lo hi wa ri ba bs cn il qu 0) (r0 : lo ≤ r) (r1 : r ≤ hi) (hq : qu + 1 < il) (d' t' : Int) (hd : d' = max 0 (min d 255)) (ht : t' = max (-1073741824) (min t 1073741824)) (h0 : d' ≠ 0) (h1 : r < t' - ba) (h4 : r < bs + ri) (h5 : cn + 1 < wa) (w : World) :
    Calls Try.prog 26 #[.agg #[.int .i64 lo, .int .i64 hi, .int .i64 wa, .int .i64 ri, .int .i64 ba, .int .i64 bs, .int .i64 cn, .int .i64 il, .int .i64 qu, .int .i64 0, .bool false], .int .i64 r, .int .i64 t, .int .i64 d] w fun e w' => e = .returned (.tuple #[.agg #[.int .i64 lo, .int .i64 hi, .int .i64 wa, .int .i64 ri, .int .i64 ba, .int .i64 bs, .int .i64 (cn + 1), .int .i64 il, .int .i64 (qu + 1), .int .i64 0, .bool false], .int .i64 d']) ∧ Ext w w' := by
  have c1 := Lib.hid fun w => ref_GValid lo hi wa ri ba bs cn il qu 0 false true (by rw [decide_eq_true h]) w
  obtain ⟨b0, b1, b2, b3, b4, b5, b6, b7, b8, b9, b10, b11, b12, b13, b14, b15⟩ := gbnd h
  have q1 : IntKind.i64.wrap (qu + 1) = qu + 1 := IntWalk.i64_in _ (by omega)
  have q2 : IntKind.i64.wrap (bs + ri) = bs + ri := IntWalk.i64_in _ (by omega)
  have q3 : IntKind.i64.wrap (cn + 1) = cn + 1 := IntWalk.i64_in _ (by omega)
  have d1 := dlt_f r0
  have d2 := dlt_f r1
  have d3 := dle_f (show qu + 1 < il by omega)
  have c2 := Lib.hid fun w => ref_clamp t (-1073741824) 1073741824 (by omega) w
  have c3 := Lib.hid fun w => ref_clamp d 0 255 (by omega) w
  rw [← hd] at c3
  rw [← ht] at c2
  have tb : IntKind.i64.wrap (t' - ba) = t' - ba := IntWalk.i64_in _ (by omega)
  have d4 := beq_f h0
  have d5 := dle_f h1
  have d6 := dle_f h4
  have d7 := dle_f h5
  clear hd ht h0 h1 h4 h5
  clear b0 b1 b2 b3 b4 b5 b6 b7 b8 b9 b10 b11 b12 b13 b14 b15 h
  have ra := Lib.hid fun w1 (x : Ext ((w.alloc (.cells #[.int .i64 lo, .int .i64 hi, .int .i64 wa, .int .i64 ri, .int .i64 ba, .int .i64 bs, .int .i64 cn, .int .i64 il, .int .i64 qu, .int .i64 0, .bool false] 41)).alloc (.cells #[.int .i64 0, .int .i64 0, .int .i64 0, .int .i64 0, .int .i64 0, .int .i64 0, .int .i64 0, .int .i64 0, .int .i64 0, .int .i64 0, .bool false] 41)) w1) => ((Room.new w #[.int .i64 lo, .int .i64 hi, .int .i64 wa, .int .i64 ri, .int .i64 ba, .int .i64 bs, .int .i64 cn, .int .i64 il, .int .i64 qu, .int .i64 0, .bool false] 41).alloc (Nat.zero_lt_succ _) (.cells #[.int .i64 0, .int .i64 0, .int .i64 0, .int .i64 0, .int .i64 0, .int .i64 0, .int .i64 0, .int .i64 0, .int .i64 0, .int .i64 0, .bool false] 41)).ext x (Nat.zero_lt_succ _)
  have rb := Lib.hid fun w1 (x : Ext ((w.alloc (.cells #[.int .i64 lo, .int .i64 hi, .int .i64 wa, .int .i64 ri, .int .i64 ba, .int .i64 bs, .int .i64 cn, .int .i64 il, .int .i64 qu, .int .i64 0, .bool false] 41)).alloc (.cells #[.int .i64 0, .int .i64 0, .int .i64 0, .int .i64 0, .int .i64 0, .int .i64 0, .int .i64 0, .int .i64 0, .int .i64 0, .int .i64 0, .bool false] 41)) w1) => (Room.new (w.alloc (.cells #[.int .i64 lo, .int .i64 hi, .int .i64 wa, .int .i64 ri, .int .i64 ba, .int .i64 bs, .int .i64 cn, .int .i64 il, .int .i64 qu, .int .i64 0, .bool false] 41)) #[.int .i64 0, .int .i64 0, .int .i64 0, .int .i64 0, .int .i64 0, .int .i64 0, .int .i64 0, .int .i64 0, .int .i64 0, .int .i64 0, .bool false] 41).ext x (Nat.zero_lt_succ _)
  go_enter Try.func26, Try.ntmps26
  go_wp2_with fail
  refine (c1.out _).mono ?_; rintro e w1 ⟨rfl, x_w1⟩
  have RA1 := Lib.hid (show Room w1 w.heap.size 11 from ra.out w1 x_w1)
  have RB1 := Lib.hid (show Room w1 (w.heap.size + 1) 11 from by simpa using rb.out w1 x_w1)
  have q0_w1 : w1.cell? ⟨w.heap.size, 0, none⟩ = some (.int .i64 lo) := x_w1.keep (by go_simp)
  have q1_w1 : w1.cell? ⟨w.heap.size, 1, none⟩ = some (.int .i64 hi) := x_w1.keep (by go_simp)
  have q2_w1 : w1.cell? ⟨w.heap.size, 2, none⟩ = some (.int .i64 wa) := x_w1.keep (by go_simp)
  have q3_w1 : w1.cell? ⟨w.heap.size, 3, none⟩ = some (.int .i64 ri) := x_w1.keep (by go_simp)
  have q4_w1 : w1.cell? ⟨w.heap.size, 4, none⟩ = some (.int .i64 ba) := x_w1.keep (by go_simp)
  have q5_w1 : w1.cell? ⟨w.heap.size, 5, none⟩ = some (.int .i64 bs) := x_w1.keep (by go_simp)
  have q6_w1 : w1.cell? ⟨w.heap.size, 6, none⟩ = some (.int .i64 cn) := x_w1.keep (by go_simp)
  have q7_w1 : w1.cell? ⟨w.heap.size, 7, none⟩ = some (.int .i64 il) := x_w1.keep (by go_simp)
  have q8_w1 : w1.cell? ⟨w.heap.size, 8, none⟩ = some (.int .i64 qu) := x_w1.keep (by go_simp)
  have q9_w1 : w1.cell? ⟨w.heap.size, 9, none⟩ = some (.int .i64 0) := x_w1.keep (by go_simp)
  have q10_w1 : w1.cell? ⟨w.heap.size, 10, none⟩ = some (.bool false) := x_w1.keep (by go_simp)
  have z_w1 := cell_lt q0_w1
  have z2_w1 : w.heap.size + 1 < w1.heap.size := RB1.out.lt (by decide)
  have X_w1 := Lib.hid (show Ext w w1 from (((Ext.refl w).alloc _).alloc _).trans x_w1)
  clear x_w1 ra rb
  simp only at z_w1
  go_wp2_with fail
  refine (c2.out _).mono ?_; rintro e w' ⟨rfl, rfl⟩
  go_wp2_with fail
  refine (c3.out _).mono ?_; rintro e w' ⟨rfl, rfl⟩
  go_wp2_with (refine stop_store (ty := 3) rfl ?_)
  refine ⟨?_⟩
  refine wpList_store_one rfl _ _ _ rfl (w.heap.size) 8 _ (.int .i64 (qu + 1)) rfl rfl rfl (by kernel_rfl) rfl (RA1.out) (by decide) (fun S0 HS_S0 => ?_)
  have X_S0 := Lib.hid (HS_S0.ext w (by (repeat' (with_reducible first | refine Ext.drew ?_ | refine Ext.drewN ?_ _ | refine Ext.alloc ?_ _ | exact Ext.refl _ | exact X_w1.out | (refine Ext.setCell ?_ ?_ _; rotate_left; (focus ((try simp); try omega)))))) (by first | exact Nat.le_refl _ | omega | (simp; done) | (simp; omega)))
  have q0_S0 : S0.cell? ⟨w.heap.size, 0, none⟩ = some (.int .i64 lo) := by rw [HS_S0.off' 0 (by decide)]; go_simp
  have q1_S0 : S0.cell? ⟨w.heap.size, 1, none⟩ = some (.int .i64 hi) := by rw [HS_S0.off' 1 (by decide)]; go_simp
  have q2_S0 : S0.cell? ⟨w.heap.size, 2, none⟩ = some (.int .i64 wa) := by rw [HS_S0.off' 2 (by decide)]; go_simp
  have q3_S0 : S0.cell? ⟨w.heap.size, 3, none⟩ = some (.int .i64 ri) := by rw [HS_S0.off' 3 (by decide)]; go_simp
  have q4_S0 : S0.cell? ⟨w.heap.size, 4, none⟩ = some (.int .i64 ba) := by rw [HS_S0.off' 4 (by decide)]; go_simp
  have q5_S0 : S0.cell? ⟨w.heap.size, 5, none⟩ = some (.int .i64 bs) := by rw [HS_S0.off' 5 (by decide)]; go_simp
  have q6_S0 : S0.cell? ⟨w.heap.size, 6, none⟩ = some (.int .i64 cn) := by rw [HS_S0.off' 6 (by decide)]; go_simp
  have q7_S0 : S0.cell? ⟨w.heap.size, 7, none⟩ = some (.int .i64 il) := by rw [HS_S0.off' 7 (by decide)]; go_simp
  have q8_S0 : S0.cell? ⟨w.heap.size, 8, none⟩ = some (.int .i64 (qu + 1)) := HS_S0.at'
  have q9_S0 : S0.cell? ⟨w.heap.size, 9, none⟩ = some (.int .i64 0) := by rw [HS_S0.off' 9 (by decide)]; go_simp
  have q10_S0 : S0.cell? ⟨w.heap.size, 10, none⟩ = some (.bool false) := by rw [HS_S0.off' 10 (by decide)]; go_simp
  have RM_S0 := Lib.hid (HS_S0.room _ _ (RA1.out))
  have fz_S0 : ∀ o, S0.frozen? ⟨w.heap.size, o, none⟩ = false := RM_S0.out.2
  have z_S0 : w.heap.size < S0.heap.size := cell_lt q0_S0
  have ST_S0 := Lib.hid HS_S0
  clear HS_S0
  go_wp2_with (refine stop_store (ty := 3) rfl ?_)
  refine ⟨?_⟩
  refine wpList_store_one rfl _ _ _ rfl (w.heap.size) 6 _ (.int .i64 (cn + 1)) rfl rfl rfl (by kernel_rfl) rfl (RM_S0.out) (by decide) (fun S1 HS_S1 => ?_)
  have X_S1 := Lib.hid (HS_S1.ext w (by (repeat' (with_reducible first | refine Ext.drew ?_ | refine Ext.drewN ?_ _ | refine Ext.alloc ?_ _ | exact Ext.refl _ | exact X_S0.out | exact X_w1.out | (refine Ext.setCell ?_ ?_ _; rotate_left; (focus ((try simp); try omega)))))) (by first | exact Nat.le_refl _ | omega | (simp; done) | (simp; omega)))
  have q0_S1 : S1.cell? ⟨w.heap.size, 0, none⟩ = some (.int .i64 lo) := by rw [HS_S1.off' 0 (by decide)]; go_simp
  have q1_S1 : S1.cell? ⟨w.heap.size, 1, none⟩ = some (.int .i64 hi) := by rw [HS_S1.off' 1 (by decide)]; go_simp
  have q2_S1 : S1.cell? ⟨w.heap.size, 2, none⟩ = some (.int .i64 wa) := by rw [HS_S1.off' 2 (by decide)]; go_simp
  have q3_S1 : S1.cell? ⟨w.heap.size, 3, none⟩ = some (.int .i64 ri) := by rw [HS_S1.off' 3 (by decide)]; go_simp
  have q4_S1 : S1.cell? ⟨w.heap.size, 4, none⟩ = some (.int .i64 ba) := by rw [HS_S1.off' 4 (by decide)]; go_simp
  have q5_S1 : S1.cell? ⟨w.heap.size, 5, none⟩ = some (.int .i64 bs) := by rw [HS_S1.off' 5 (by decide)]; go_simp
  have q6_S1 : S1.cell? ⟨w.heap.size, 6, none⟩ = some (.int .i64 (cn + 1)) := HS_S1.at'
  have q7_S1 : S1.cell? ⟨w.heap.size, 7, none⟩ = some (.int .i64 il) := by rw [HS_S1.off' 7 (by decide)]; go_simp
  have q8_S1 : S1.cell? ⟨w.heap.size, 8, none⟩ = some (.int .i64 (qu + 1)) := by rw [HS_S1.off' 8 (by decide)]; go_simp
  have q9_S1 : S1.cell? ⟨w.heap.size, 9, none⟩ = some (.int .i64 0) := by rw [HS_S1.off' 9 (by decide)]; go_simp
  have q10_S1 : S1.cell? ⟨w.heap.size, 10, none⟩ = some (.bool false) := by rw [HS_S1.off' 10 (by decide)]; go_simp
  have RM_S1 := Lib.hid (HS_S1.room _ _ (RM_S0.out))
  have fz_S1 : ∀ o, S1.frozen? ⟨w.heap.size, o, none⟩ = false := RM_S1.out.2
  have z_S1 : w.heap.size < S1.heap.size := cell_lt q0_S1
  have ST_S1 := Lib.hid HS_S1
  clear HS_S1
  go_wp2_with (refine stop_store (ty := 41) rfl ?_)
  refine ⟨?_⟩
  refine wpList_store_agg rfl _ _ _ rfl (w.heap.size + 1) #[.int .i64 lo, .int .i64 hi, .int .i64 wa, .int .i64 ri, .int .i64 ba, .int .i64 bs, .int .i64 (cn + 1), .int .i64 il, .int .i64 (qu + 1), .int .i64 0, .bool false] rfl rfl (by kernel_rfl) (by kernel_rfl) (ST_S1.out.room _ _ (ST_S0.out.room _ _ (RB1.out))) (fun E HS_E => ?_)
  have X_E := Lib.hid (HS_E.ext w (by (repeat' (with_reducible first | refine Ext.drew ?_ | refine Ext.drewN ?_ _ | refine Ext.alloc ?_ _ | exact Ext.refl _ | exact X_S1.out | exact X_S0.out | exact X_w1.out | (refine Ext.setCell ?_ ?_ _; rotate_left; (focus ((try simp); try omega)))))) (by first | exact Nat.le_refl _ | omega | (simp; done) | (simp; omega)))
  have q0_E : E.cell? ⟨w.heap.size + 1, 0, none⟩ = some (.int .i64 lo) := HS_E.at' 0 _ rfl
  have q1_E : E.cell? ⟨w.heap.size + 1, 1, none⟩ = some (.int .i64 hi) := HS_E.at' 1 _ rfl
  have q2_E : E.cell? ⟨w.heap.size + 1, 2, none⟩ = some (.int .i64 wa) := HS_E.at' 2 _ rfl
  have q3_E : E.cell? ⟨w.heap.size + 1, 3, none⟩ = some (.int .i64 ri) := HS_E.at' 3 _ rfl
  have q4_E : E.cell? ⟨w.heap.size + 1, 4, none⟩ = some (.int .i64 ba) := HS_E.at' 4 _ rfl
  have q5_E : E.cell? ⟨w.heap.size + 1, 5, none⟩ = some (.int .i64 bs) := HS_E.at' 5 _ rfl
  have q6_E : E.cell? ⟨w.heap.size + 1, 6, none⟩ = some (.int .i64 (cn + 1)) := HS_E.at' 6 _ rfl
  have q7_E : E.cell? ⟨w.heap.size + 1, 7, none⟩ = some (.int .i64 il) := HS_E.at' 7 _ rfl
  have q8_E : E.cell? ⟨w.heap.size + 1, 8, none⟩ = some (.int .i64 (qu + 1)) := HS_E.at' 8 _ rfl
  have q9_E : E.cell? ⟨w.heap.size + 1, 9, none⟩ = some (.int .i64 0) := HS_E.at' 9 _ rfl
  have q10_E : E.cell? ⟨w.heap.size + 1, 10, none⟩ = some (.bool false) := HS_E.at' 10 _ rfl
  have RM_E := Lib.hid (HS_E.room (ST_S1.out.room _ _ (ST_S0.out.room _ _ (RB1.out))) (Nat.le_refl _))
  have fz_E : ∀ o, E.frozen? ⟨w.heap.size + 1, o, none⟩ = false := RM_E.out.2
  have z_E : w.heap.size + 1 < E.heap.size := cell_lt q0_E
  have ST_E := Lib.hid HS_E
  clear HS_E
  go_wp2_with fail
  exact bodyPost_ret (v := .tuple #[.agg #[.int .i64 lo, .int .i64 hi, .int .i64 wa, .int .i64 ri, .int .i64 ba, .int .i64 bs, .int .i64 (cn + 1), .int .i64 il, .int .i64 (qu + 1), .int .i64 0, .bool false], .int .i64 d']) (by simp [results, Try.results26, go_sem, *]) rfl ⟨rfl, by (repeat' (with_reducible first | refine Ext.drew ?_ | refine Ext.drewN ?_ _ | refine Ext.alloc ?_ _ | exact Ext.refl _ | exact X_E.out | exact X_S1.out | exact X_S0.out | exact X_w1.out | (refine Ext.setCell ?_ ?_ _; rotate_left; (focus ((try simp); try omega)))))⟩
end Go.Proofs.Ytnmjikaojoaaaaa

