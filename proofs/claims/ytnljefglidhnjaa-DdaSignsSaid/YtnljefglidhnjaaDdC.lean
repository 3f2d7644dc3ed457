/-
  At of additiveref42, valid counts.
-/
import Derived.Test.YtnljefglidhnjaaDdB0
namespace Go.Proofs.Ytnljefglidhnjaa
open Go.RowKit
set_option maxHeartbeats 16000000 in
theorem ref_At_ok (a b c d i n j A0 A1 A2 A3 : Int) (hv : DVal a b c d) (hn : n = dom a b c d) (hj : max 0 (min i n) = j) (h0 : A0 = atv a n j) (h1 : A1 = atv b n j) (h2 : A2 = atv c n j) (h3 : A3 = atv d n j) (w : World) :
    Calls Try.prog 21 #[.agg #[.int .i64 a, .int .i64 b, .int .i64 c, .int .i64 d], .int .i64 i] w fun e w' => e = .returned (.agg #[.int .i64 A0, .int .i64 A1, .int .i64 A2, .int .i64 A3]) ∧ Ext w w' := by
  obtain ⟨i0, i1, i2, i3⟩ := idx4 a b c d
  have c1 := Lib.hid fun w => ref_DValid a b c d true (by rw [decide_eq_true hv]) w
  have c2 := Lib.hid fun w => ref_Dominant a b c d n (.inl ⟨hv, hn⟩) w
  obtain ⟨r0, r1, _⟩ := dom_range hv
  rw [← hn] at r0 r1
  have z0 := Lib.hid fun w => ref_dsize a (by unfold DVal at hv; omega) (by unfold DVal at hv; omega) w
  have z1 := Lib.hid fun w => ref_dsize b (by unfold DVal at hv; omega) (by unfold DVal at hv; omega) w
  have z2 := Lib.hid fun w => ref_dsize c (by unfold DVal at hv; omega) (by unfold DVal at hv; omega) w
  have z3 := Lib.hid fun w => ref_dsize d (by unfold DVal at hv; omega) (by unfold DVal at hv; omega) w
  obtain ⟨⟨a0, a1, b0, b1, g0, g1, d0, d1⟩, _⟩ := hv
  have j0 : 0 ≤ j := by omega
  have j1 : j ≤ n := by omega
  obtain ⟨qa, ⟨pa0, pa1⟩, ea, qa0, qa1, sa⟩ := at_parts a0 a1 r0 r1 j0 j1 h0
  obtain ⟨qb, ⟨pb0, pb1⟩, eb, qb0, qb1, sb⟩ := at_parts b0 b1 r0 r1 j0 j1 h1
  obtain ⟨qc, ⟨pc0, pc1⟩, ec, qc0, qc1, sc⟩ := at_parts g0 g1 r0 r1 j0 j1 h2
  obtain ⟨qd, ⟨pd0, pd1⟩, ed, qd0, qd1, sd⟩ := at_parts d0 d1 r0 r1 j0 j1 h3
  clear hn h0 h1 h2 h3
  rcases sa with ⟨sa, fa⟩ | ⟨sa, fa⟩ <;> rcases sb with ⟨sb, fb⟩ | ⟨sb, fb⟩ <;> rcases sc with ⟨sc, fc⟩ | ⟨sc, fc⟩ <;> rcases sd with ⟨sd, fd⟩ | ⟨sd, fd⟩
  all_goals
    go_enter Try.func21, Try.ntmps21
    go_wp2_with fail
    refine (c2.out _).mono ?_; rintro e w1 ⟨rfl, x_w1⟩
    obtain ⟨k_w1, f_w1⟩ := bcell x_w1
    have s_w1 := x_w1.size; (try simp at s_w1)
    have z0_w1 : w.heap.size < w1.heap.size := by omega
    have z1_w1 : w.heap.size + 1 < w1.heap.size := by omega
    have z2_w1 : w.heap.size + 1 + 1 < w1.heap.size := by omega
    have q0_w1 : w1.cell? ⟨w.heap.size + 1 + 1, 0, none⟩ = some (.int .i64 0) := by rw [k_w1 _ _ (by first | (simp; done) | (simp; omega))]; go_simp
    have q1_w1 : w1.cell? ⟨w.heap.size + 1 + 1, 1, none⟩ = some (.int .i64 0) := by rw [k_w1 _ _ (by first | (simp; done) | (simp; omega))]; go_simp
    have q2_w1 : w1.cell? ⟨w.heap.size + 1 + 1, 2, none⟩ = some (.int .i64 0) := by rw [k_w1 _ _ (by first | (simp; done) | (simp; omega))]; go_simp
    have q3_w1 : w1.cell? ⟨w.heap.size + 1 + 1, 3, none⟩ = some (.int .i64 0) := by rw [k_w1 _ _ (by first | (simp; done) | (simp; omega))]; go_simp
    have X_w1 := Lib.hid (show Ext w w1 from Ext.trans (by (repeat' (with_reducible first | refine Ext.drew ?_ | refine Ext.drewN ?_ _ | refine Ext.alloc ?_ _ | exact Ext.refl _ | fail | (refine Ext.setCell ?_ ?_ _; rotate_left; (focus (simp; try omega)))))) x_w1)
    clear x_w1 s_w1
    go_wp2_with fail
    refine wp_loop_rounds 5 ?_
    rw [rounds_succ]; go_wp2_with fail
    refine (z0.out _).mono ?_; rintro e w' ⟨rfl, rfl⟩
    go_wp2_with fail
    rw [rounds_succ]
    refine wp_world fun W0 h_W0 => ?_
    have q0_W0 : W0.cell? ⟨w.heap.size, 0, none⟩ = some (.int .i64 a) := by rw [h_W0]; go_simp
    have u0_W0 : ∀ w', Ext W0 w' → w'.cell? ⟨w.heap.size, 0, none⟩ = some (.int .i64 a) := fun _ h => h.keep q0_W0
    have q1_W0 : W0.cell? ⟨w.heap.size, 1, none⟩ = some (.int .i64 b) := by rw [h_W0]; go_simp
    have u1_W0 : ∀ w', Ext W0 w' → w'.cell? ⟨w.heap.size, 1, none⟩ = some (.int .i64 b) := fun _ h => h.keep q1_W0
    have q2_W0 : W0.cell? ⟨w.heap.size, 2, none⟩ = some (.int .i64 c) := by rw [h_W0]; go_simp
    have u2_W0 : ∀ w', Ext W0 w' → w'.cell? ⟨w.heap.size, 2, none⟩ = some (.int .i64 c) := fun _ h => h.keep q2_W0
    have q3_W0 : W0.cell? ⟨w.heap.size, 3, none⟩ = some (.int .i64 d) := by rw [h_W0]; go_simp
    have u3_W0 : ∀ w', Ext W0 w' → w'.cell? ⟨w.heap.size, 3, none⟩ = some (.int .i64 d) := fun _ h => h.keep q3_W0
    have q4_W0 : W0.cell? ⟨w.heap.size + 1, 0, none⟩ = some (.int .i64 0) := by rw [h_W0]; go_simp
    have u4_W0 : ∀ w', Ext W0 w' → w'.cell? ⟨w.heap.size + 1, 0, none⟩ = some (.int .i64 0) := fun _ h => h.keep q4_W0
    have q5_W0 : W0.cell? ⟨w.heap.size + 1, 1, none⟩ = some (.int .i64 0) := by rw [h_W0]; go_simp
    have u5_W0 : ∀ w', Ext W0 w' → w'.cell? ⟨w.heap.size + 1, 1, none⟩ = some (.int .i64 0) := fun _ h => h.keep q5_W0
    have q6_W0 : W0.cell? ⟨w.heap.size + 1, 2, none⟩ = some (.int .i64 0) := by rw [h_W0]; go_simp
    have u6_W0 : ∀ w', Ext W0 w' → w'.cell? ⟨w.heap.size + 1, 2, none⟩ = some (.int .i64 0) := fun _ h => h.keep q6_W0
    have q7_W0 : W0.cell? ⟨w.heap.size + 1, 3, none⟩ = some (.int .i64 0) := by rw [h_W0]; go_simp
    have u7_W0 : ∀ w', Ext W0 w' → w'.cell? ⟨w.heap.size + 1, 3, none⟩ = some (.int .i64 0) := fun _ h => h.keep q7_W0
    have q8_W0 : W0.cell? ⟨w.heap.size + 1 + 1, 0, none⟩ = some (.int .i64 A0) := by rw [h_W0]; go_simp
    have u8_W0 : ∀ w', Ext W0 w' → w'.cell? ⟨w.heap.size + 1 + 1, 0, none⟩ = some (.int .i64 A0) := fun _ h => h.keep q8_W0
    have q9_W0 : W0.cell? ⟨w.heap.size + 1 + 1, 1, none⟩ = some (.int .i64 0) := by rw [h_W0]; go_simp
    have u9_W0 : ∀ w', Ext W0 w' → w'.cell? ⟨w.heap.size + 1 + 1, 1, none⟩ = some (.int .i64 0) := fun _ h => h.keep q9_W0
    have q10_W0 : W0.cell? ⟨w.heap.size + 1 + 1, 2, none⟩ = some (.int .i64 0) := by rw [h_W0]; go_simp
    have u10_W0 : ∀ w', Ext W0 w' → w'.cell? ⟨w.heap.size + 1 + 1, 2, none⟩ = some (.int .i64 0) := fun _ h => h.keep q10_W0
    have q11_W0 : W0.cell? ⟨w.heap.size + 1 + 1, 3, none⟩ = some (.int .i64 0) := by rw [h_W0]; go_simp
    have u11_W0 : ∀ w', Ext W0 w' → w'.cell? ⟨w.heap.size + 1 + 1, 3, none⟩ = some (.int .i64 0) := fun _ h => h.keep q11_W0
    have X_W0 := Lib.hid (show Ext w W0 by rw [h_W0]; exact (by (repeat' (with_reducible first | refine Ext.drew ?_ | refine Ext.drewN ?_ _ | refine Ext.alloc ?_ _ | exact Ext.refl _ | exact X_w1.out | (refine Ext.setCell ?_ ?_ _; rotate_left; (focus (simp; try omega)))))))
    have fz0_W0 : ∀ o, W0.frozen? ⟨w.heap.size, o, none⟩ = false := by intro o; rw [h_W0]; go_simp
    have z0_W0 : w.heap.size < W0.heap.size := by rw [h_W0]; simp; try omega
    have fz1_W0 : ∀ o, W0.frozen? ⟨w.heap.size + 1, o, none⟩ = false := by intro o; rw [h_W0]; go_simp
    have z1_W0 : w.heap.size + 1 < W0.heap.size := by rw [h_W0]; simp; try omega
    have fz2_W0 : ∀ o, W0.frozen? ⟨w.heap.size + 1 + 1, o, none⟩ = false := by intro o; rw [h_W0]; go_simp
    have z2_W0 : w.heap.size + 1 + 1 < W0.heap.size := by rw [h_W0]; simp; try omega
    clear h_W0
    go_wp2_with fail
    refine (z1.out _).mono ?_; rintro e w' ⟨rfl, rfl⟩
    go_wp2_with fail
    rw [rounds_succ]
    refine wp_world fun W1 h_W1 => ?_
    have q0_W1 : W1.cell? ⟨w.heap.size, 0, none⟩ = some (.int .i64 a) := by rw [h_W1]; go_simp
    have u0_W1 : ∀ w', Ext W1 w' → w'.cell? ⟨w.heap.size, 0, none⟩ = some (.int .i64 a) := fun _ h => h.keep q0_W1
    have q1_W1 : W1.cell? ⟨w.heap.size, 1, none⟩ = some (.int .i64 b) := by rw [h_W1]; go_simp
    have u1_W1 : ∀ w', Ext W1 w' → w'.cell? ⟨w.heap.size, 1, none⟩ = some (.int .i64 b) := fun _ h => h.keep q1_W1
    have q2_W1 : W1.cell? ⟨w.heap.size, 2, none⟩ = some (.int .i64 c) := by rw [h_W1]; go_simp
    have u2_W1 : ∀ w', Ext W1 w' → w'.cell? ⟨w.heap.size, 2, none⟩ = some (.int .i64 c) := fun _ h => h.keep q2_W1
    have q3_W1 : W1.cell? ⟨w.heap.size, 3, none⟩ = some (.int .i64 d) := by rw [h_W1]; go_simp
    have u3_W1 : ∀ w', Ext W1 w' → w'.cell? ⟨w.heap.size, 3, none⟩ = some (.int .i64 d) := fun _ h => h.keep q3_W1
    have q4_W1 : W1.cell? ⟨w.heap.size + 1, 0, none⟩ = some (.int .i64 0) := by rw [h_W1]; go_simp
    have u4_W1 : ∀ w', Ext W1 w' → w'.cell? ⟨w.heap.size + 1, 0, none⟩ = some (.int .i64 0) := fun _ h => h.keep q4_W1
    have q5_W1 : W1.cell? ⟨w.heap.size + 1, 1, none⟩ = some (.int .i64 0) := by rw [h_W1]; go_simp
    have u5_W1 : ∀ w', Ext W1 w' → w'.cell? ⟨w.heap.size + 1, 1, none⟩ = some (.int .i64 0) := fun _ h => h.keep q5_W1
    have q6_W1 : W1.cell? ⟨w.heap.size + 1, 2, none⟩ = some (.int .i64 0) := by rw [h_W1]; go_simp
    have u6_W1 : ∀ w', Ext W1 w' → w'.cell? ⟨w.heap.size + 1, 2, none⟩ = some (.int .i64 0) := fun _ h => h.keep q6_W1
    have q7_W1 : W1.cell? ⟨w.heap.size + 1, 3, none⟩ = some (.int .i64 0) := by rw [h_W1]; go_simp
    have u7_W1 : ∀ w', Ext W1 w' → w'.cell? ⟨w.heap.size + 1, 3, none⟩ = some (.int .i64 0) := fun _ h => h.keep q7_W1
    have q8_W1 : W1.cell? ⟨w.heap.size + 1 + 1, 0, none⟩ = some (.int .i64 A0) := by rw [h_W1]; go_simp
    have u8_W1 : ∀ w', Ext W1 w' → w'.cell? ⟨w.heap.size + 1 + 1, 0, none⟩ = some (.int .i64 A0) := fun _ h => h.keep q8_W1
    have q9_W1 : W1.cell? ⟨w.heap.size + 1 + 1, 1, none⟩ = some (.int .i64 A1) := by rw [h_W1]; go_simp
    have u9_W1 : ∀ w', Ext W1 w' → w'.cell? ⟨w.heap.size + 1 + 1, 1, none⟩ = some (.int .i64 A1) := fun _ h => h.keep q9_W1
    have q10_W1 : W1.cell? ⟨w.heap.size + 1 + 1, 2, none⟩ = some (.int .i64 0) := by rw [h_W1]; go_simp
    have u10_W1 : ∀ w', Ext W1 w' → w'.cell? ⟨w.heap.size + 1 + 1, 2, none⟩ = some (.int .i64 0) := fun _ h => h.keep q10_W1
    have q11_W1 : W1.cell? ⟨w.heap.size + 1 + 1, 3, none⟩ = some (.int .i64 0) := by rw [h_W1]; go_simp
    have u11_W1 : ∀ w', Ext W1 w' → w'.cell? ⟨w.heap.size + 1 + 1, 3, none⟩ = some (.int .i64 0) := fun _ h => h.keep q11_W1
    have X_W1 := Lib.hid (show Ext w W1 by rw [h_W1]; exact (by (repeat' (with_reducible first | refine Ext.drew ?_ | refine Ext.drewN ?_ _ | refine Ext.alloc ?_ _ | exact Ext.refl _ | exact X_W0.out | exact X_w1.out | (refine Ext.setCell ?_ ?_ _; rotate_left; (focus (simp; try omega)))))))
    have fz0_W1 : ∀ o, W1.frozen? ⟨w.heap.size, o, none⟩ = false := by intro o; rw [h_W1]; go_simp
    have z0_W1 : w.heap.size < W1.heap.size := by rw [h_W1]; simp; try omega
    have fz1_W1 : ∀ o, W1.frozen? ⟨w.heap.size + 1, o, none⟩ = false := by intro o; rw [h_W1]; go_simp
    have z1_W1 : w.heap.size + 1 < W1.heap.size := by rw [h_W1]; simp; try omega
    have fz2_W1 : ∀ o, W1.frozen? ⟨w.heap.size + 1 + 1, o, none⟩ = false := by intro o; rw [h_W1]; go_simp
    have z2_W1 : w.heap.size + 1 + 1 < W1.heap.size := by rw [h_W1]; simp; try omega
    clear h_W1
    go_wp2_with fail
    refine (z2.out _).mono ?_; rintro e w' ⟨rfl, rfl⟩
    go_wp2_with fail
    rw [rounds_succ]
    refine wp_world fun W2 h_W2 => ?_
    have q0_W2 : W2.cell? ⟨w.heap.size, 0, none⟩ = some (.int .i64 a) := by rw [h_W2]; go_simp
    have u0_W2 : ∀ w', Ext W2 w' → w'.cell? ⟨w.heap.size, 0, none⟩ = some (.int .i64 a) := fun _ h => h.keep q0_W2
    have q1_W2 : W2.cell? ⟨w.heap.size, 1, none⟩ = some (.int .i64 b) := by rw [h_W2]; go_simp
    have u1_W2 : ∀ w', Ext W2 w' → w'.cell? ⟨w.heap.size, 1, none⟩ = some (.int .i64 b) := fun _ h => h.keep q1_W2
    have q2_W2 : W2.cell? ⟨w.heap.size, 2, none⟩ = some (.int .i64 c) := by rw [h_W2]; go_simp
    have u2_W2 : ∀ w', Ext W2 w' → w'.cell? ⟨w.heap.size, 2, none⟩ = some (.int .i64 c) := fun _ h => h.keep q2_W2
    have q3_W2 : W2.cell? ⟨w.heap.size, 3, none⟩ = some (.int .i64 d) := by rw [h_W2]; go_simp
    have u3_W2 : ∀ w', Ext W2 w' → w'.cell? ⟨w.heap.size, 3, none⟩ = some (.int .i64 d) := fun _ h => h.keep q3_W2
    have q4_W2 : W2.cell? ⟨w.heap.size + 1, 0, none⟩ = some (.int .i64 0) := by rw [h_W2]; go_simp
    have u4_W2 : ∀ w', Ext W2 w' → w'.cell? ⟨w.heap.size + 1, 0, none⟩ = some (.int .i64 0) := fun _ h => h.keep q4_W2
    have q5_W2 : W2.cell? ⟨w.heap.size + 1, 1, none⟩ = some (.int .i64 0) := by rw [h_W2]; go_simp
    have u5_W2 : ∀ w', Ext W2 w' → w'.cell? ⟨w.heap.size + 1, 1, none⟩ = some (.int .i64 0) := fun _ h => h.keep q5_W2
    have q6_W2 : W2.cell? ⟨w.heap.size + 1, 2, none⟩ = some (.int .i64 0) := by rw [h_W2]; go_simp
    have u6_W2 : ∀ w', Ext W2 w' → w'.cell? ⟨w.heap.size + 1, 2, none⟩ = some (.int .i64 0) := fun _ h => h.keep q6_W2
    have q7_W2 : W2.cell? ⟨w.heap.size + 1, 3, none⟩ = some (.int .i64 0) := by rw [h_W2]; go_simp
    have u7_W2 : ∀ w', Ext W2 w' → w'.cell? ⟨w.heap.size + 1, 3, none⟩ = some (.int .i64 0) := fun _ h => h.keep q7_W2
    have q8_W2 : W2.cell? ⟨w.heap.size + 1 + 1, 0, none⟩ = some (.int .i64 A0) := by rw [h_W2]; go_simp
    have u8_W2 : ∀ w', Ext W2 w' → w'.cell? ⟨w.heap.size + 1 + 1, 0, none⟩ = some (.int .i64 A0) := fun _ h => h.keep q8_W2
    have q9_W2 : W2.cell? ⟨w.heap.size + 1 + 1, 1, none⟩ = some (.int .i64 A1) := by rw [h_W2]; go_simp
    have u9_W2 : ∀ w', Ext W2 w' → w'.cell? ⟨w.heap.size + 1 + 1, 1, none⟩ = some (.int .i64 A1) := fun _ h => h.keep q9_W2
    have q10_W2 : W2.cell? ⟨w.heap.size + 1 + 1, 2, none⟩ = some (.int .i64 A2) := by rw [h_W2]; go_simp
    have u10_W2 : ∀ w', Ext W2 w' → w'.cell? ⟨w.heap.size + 1 + 1, 2, none⟩ = some (.int .i64 A2) := fun _ h => h.keep q10_W2
    have q11_W2 : W2.cell? ⟨w.heap.size + 1 + 1, 3, none⟩ = some (.int .i64 0) := by rw [h_W2]; go_simp
    have u11_W2 : ∀ w', Ext W2 w' → w'.cell? ⟨w.heap.size + 1 + 1, 3, none⟩ = some (.int .i64 0) := fun _ h => h.keep q11_W2
    have X_W2 := Lib.hid (show Ext w W2 by rw [h_W2]; exact (by (repeat' (with_reducible first | refine Ext.drew ?_ | refine Ext.drewN ?_ _ | refine Ext.alloc ?_ _ | exact Ext.refl _ | exact X_W1.out | exact X_W0.out | exact X_w1.out | (refine Ext.setCell ?_ ?_ _; rotate_left; (focus (simp; try omega)))))))
    have fz0_W2 : ∀ o, W2.frozen? ⟨w.heap.size, o, none⟩ = false := by intro o; rw [h_W2]; go_simp
    have z0_W2 : w.heap.size < W2.heap.size := by rw [h_W2]; simp; try omega
    have fz1_W2 : ∀ o, W2.frozen? ⟨w.heap.size + 1, o, none⟩ = false := by intro o; rw [h_W2]; go_simp
    have z1_W2 : w.heap.size + 1 < W2.heap.size := by rw [h_W2]; simp; try omega
    have fz2_W2 : ∀ o, W2.frozen? ⟨w.heap.size + 1 + 1, o, none⟩ = false := by intro o; rw [h_W2]; go_simp
    have z2_W2 : w.heap.size + 1 + 1 < W2.heap.size := by rw [h_W2]; simp; try omega
    clear h_W2
    go_wp2_with fail
    refine (z3.out _).mono ?_; rintro e w' ⟨rfl, rfl⟩
    go_wp2_with fail
    rw [rounds_succ]
    refine wp_world fun W3 h_W3 => ?_
    have q0_W3 : W3.cell? ⟨w.heap.size, 0, none⟩ = some (.int .i64 a) := by rw [h_W3]; go_simp
    have u0_W3 : ∀ w', Ext W3 w' → w'.cell? ⟨w.heap.size, 0, none⟩ = some (.int .i64 a) := fun _ h => h.keep q0_W3
    have q1_W3 : W3.cell? ⟨w.heap.size, 1, none⟩ = some (.int .i64 b) := by rw [h_W3]; go_simp
    have u1_W3 : ∀ w', Ext W3 w' → w'.cell? ⟨w.heap.size, 1, none⟩ = some (.int .i64 b) := fun _ h => h.keep q1_W3
    have q2_W3 : W3.cell? ⟨w.heap.size, 2, none⟩ = some (.int .i64 c) := by rw [h_W3]; go_simp
    have u2_W3 : ∀ w', Ext W3 w' → w'.cell? ⟨w.heap.size, 2, none⟩ = some (.int .i64 c) := fun _ h => h.keep q2_W3
    have q3_W3 : W3.cell? ⟨w.heap.size, 3, none⟩ = some (.int .i64 d) := by rw [h_W3]; go_simp
    have u3_W3 : ∀ w', Ext W3 w' → w'.cell? ⟨w.heap.size, 3, none⟩ = some (.int .i64 d) := fun _ h => h.keep q3_W3
    have q4_W3 : W3.cell? ⟨w.heap.size + 1, 0, none⟩ = some (.int .i64 0) := by rw [h_W3]; go_simp
    have u4_W3 : ∀ w', Ext W3 w' → w'.cell? ⟨w.heap.size + 1, 0, none⟩ = some (.int .i64 0) := fun _ h => h.keep q4_W3
    have q5_W3 : W3.cell? ⟨w.heap.size + 1, 1, none⟩ = some (.int .i64 0) := by rw [h_W3]; go_simp
    have u5_W3 : ∀ w', Ext W3 w' → w'.cell? ⟨w.heap.size + 1, 1, none⟩ = some (.int .i64 0) := fun _ h => h.keep q5_W3
    have q6_W3 : W3.cell? ⟨w.heap.size + 1, 2, none⟩ = some (.int .i64 0) := by rw [h_W3]; go_simp
    have u6_W3 : ∀ w', Ext W3 w' → w'.cell? ⟨w.heap.size + 1, 2, none⟩ = some (.int .i64 0) := fun _ h => h.keep q6_W3
    have q7_W3 : W3.cell? ⟨w.heap.size + 1, 3, none⟩ = some (.int .i64 0) := by rw [h_W3]; go_simp
    have u7_W3 : ∀ w', Ext W3 w' → w'.cell? ⟨w.heap.size + 1, 3, none⟩ = some (.int .i64 0) := fun _ h => h.keep q7_W3
    have q8_W3 : W3.cell? ⟨w.heap.size + 1 + 1, 0, none⟩ = some (.int .i64 A0) := by rw [h_W3]; go_simp
    have u8_W3 : ∀ w', Ext W3 w' → w'.cell? ⟨w.heap.size + 1 + 1, 0, none⟩ = some (.int .i64 A0) := fun _ h => h.keep q8_W3
    have q9_W3 : W3.cell? ⟨w.heap.size + 1 + 1, 1, none⟩ = some (.int .i64 A1) := by rw [h_W3]; go_simp
    have u9_W3 : ∀ w', Ext W3 w' → w'.cell? ⟨w.heap.size + 1 + 1, 1, none⟩ = some (.int .i64 A1) := fun _ h => h.keep q9_W3
    have q10_W3 : W3.cell? ⟨w.heap.size + 1 + 1, 2, none⟩ = some (.int .i64 A2) := by rw [h_W3]; go_simp
    have u10_W3 : ∀ w', Ext W3 w' → w'.cell? ⟨w.heap.size + 1 + 1, 2, none⟩ = some (.int .i64 A2) := fun _ h => h.keep q10_W3
    have q11_W3 : W3.cell? ⟨w.heap.size + 1 + 1, 3, none⟩ = some (.int .i64 A3) := by rw [h_W3]; go_simp
    have u11_W3 : ∀ w', Ext W3 w' → w'.cell? ⟨w.heap.size + 1 + 1, 3, none⟩ = some (.int .i64 A3) := fun _ h => h.keep q11_W3
    have X_W3 := Lib.hid (show Ext w W3 by rw [h_W3]; exact (by (repeat' (with_reducible first | refine Ext.drew ?_ | refine Ext.drewN ?_ _ | refine Ext.alloc ?_ _ | exact Ext.refl _ | exact X_W2.out | exact X_W1.out | exact X_W0.out | exact X_w1.out | (refine Ext.setCell ?_ ?_ _; rotate_left; (focus (simp; try omega)))))))
    have fz0_W3 : ∀ o, W3.frozen? ⟨w.heap.size, o, none⟩ = false := by intro o; rw [h_W3]; go_simp
    have z0_W3 : w.heap.size < W3.heap.size := by rw [h_W3]; simp; try omega
    have fz1_W3 : ∀ o, W3.frozen? ⟨w.heap.size + 1, o, none⟩ = false := by intro o; rw [h_W3]; go_simp
    have z1_W3 : w.heap.size + 1 < W3.heap.size := by rw [h_W3]; simp; try omega
    have fz2_W3 : ∀ o, W3.frozen? ⟨w.heap.size + 1 + 1, o, none⟩ = false := by intro o; rw [h_W3]; go_simp
    have z2_W3 : w.heap.size + 1 + 1 < W3.heap.size := by rw [h_W3]; simp; try omega
    clear h_W3
    go_wp2_with fail
    exact bodyPost_ret (v := .agg #[.int .i64 A0, .int .i64 A1, .int .i64 A2, .int .i64 A3]) (by simp [results, Try.results21, go_sem, *]) rfl ⟨rfl, by (repeat' (with_reducible first | refine Ext.drew ?_ | refine Ext.drewN ?_ _ | refine Ext.alloc ?_ _ | exact Ext.refl _ | exact X_W3.out | exact X_W2.out | exact X_W1.out | exact X_W0.out | exact X_w1.out | (refine Ext.setCell ?_ ?_ _; rotate_left; (focus (simp; try omega)))))⟩
end Go.Proofs.Ytnljefglidhnjaa

