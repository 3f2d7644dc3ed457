/-
  The walks of the laws ControlSteps, ControlBounded, ControlMonotone: each answers true.
-/
import Derived.Test.YtnljefglidhnjaaCtB
namespace Go.Proofs.Ytnljefglidhnjaa
open Go.RowKit
theorem eqs (T p i s u l : Int) (w : World) : (binOp .eql 30 (.agg #[.int .i64 T, .int .i64 p, .int .i64 i, .int .i64 s, .int .i64 u, .int .i64 l]) (.agg #[.int .i64 T, .int .i64 p, .int .i64 i, .int .i64 s, .int .i64 u, .int .i64 l])).run Try.prog w = .ok (.bool true) w := by
  rw [eql_c]; simp
theorem neqs (T p i s u l : Int) (w : World) : (binOp .neq 30 (.agg #[.int .i64 T, .int .i64 p, .int .i64 i, .int .i64 s, .int .i64 u, .int .i64 l]) (.agg #[.int .i64 T, .int .i64 p, .int .i64 i, .int .i64 s, .int .i64 u, .int .i64 l])).run Try.prog w = .ok (.bool false) w := by
  have ht : Try.prog.underlying 30 = some (.struct (Try.prog.fieldsOf 30)) := by kernel_rfl
  have hp : Try.prog.stoodInHeld 30 = false := by kernel_rfl
  have hf : (Try.prog.fieldsOf 30).toList = [⟨"Target", 3, 0, false, "", "", 0⟩, ⟨"Kp", 3, 1, false, "", "", 8⟩, ⟨"Ki", 3, 2, false, "", "", 16⟩, ⟨"Scale", 3, 3, false, "", "", 24⟩, ⟨"Sum", 3, 4, false, "", "", 32⟩, ⟨"Limit", 3, 5, false, "", "", 40⟩] := by kernel_rfl
  rw [run_neq_struct, run_equalIn_agg w 9999 30 _ _ ht hp, hf]
  simp [Op.eqFields, go_sem]
theorem law_awake (w : World) : Calls Try.prog 29 #[] w fun e w' => e = .returned (.bool true) ∧ Ext w w' := by
  have c1 := Lib.hid fun w => control_Step 100 2 1 4 0 50 90 10 7 (.inr (.inr ⟨by decide, by decide, by decide, by decide, by decide, by decide⟩)) w
  have c2 := Lib.hid fun w => control_Valid 100 2 1 4 10 50 true (by decide) w
  go_enter Try.func29, Try.ntmps29
  go_wp2_with fail
  refine (c1.out _).mono ?_; rintro e w1 ⟨rfl, x_w1⟩
  obtain ⟨k_w1, f_w1⟩ := bcell x_w1
  have X_w1 := Lib.hid (show Ext w w1 from Ext.trans (by (repeat' (with_reducible first | refine Ext.drew ?_ | refine Ext.drewN ?_ _ | refine Ext.alloc ?_ _ | exact Ext.refl _ | fail | (refine Ext.setCell ?_ ?_ _; rotate_left; (focus (simp; try omega)))))) x_w1)
  clear x_w1
  go_wp2_with fail
  refine (c2.out _).mono ?_; rintro e w2 ⟨rfl, x_w2⟩
  obtain ⟨k_w2, f_w2⟩ := bcell x_w2
  have X_w2 := Lib.hid (show Ext w w2 from Ext.trans (by (repeat' (with_reducible first | refine Ext.drew ?_ | refine Ext.drewN ?_ _ | refine Ext.alloc ?_ _ | exact Ext.refl _ | exact X_w1.out | (refine Ext.setCell ?_ ?_ _; rotate_left; (focus (simp; try omega)))))) x_w2)
  clear x_w2
  go_wp2_with fail
  go_ret
  exact ⟨rfl, by (repeat' (with_reducible first | refine Ext.drew ?_ | refine Ext.drewN ?_ _ | refine Ext.alloc ?_ _ | exact Ext.refl _ | exact X_w2.out | exact X_w1.out | (refine Ext.setCell ?_ ?_ _; rotate_left; (focus (simp; try omega)))))⟩
theorem law_ControlSteps (T p i s u l : Int) (r : Int) (w : World) : Calls Try.prog 10 #[.agg #[.int .i64 T, .int .i64 p, .int .i64 i, .int .i64 s, .int .i64 u, .int .i64 l], .int .i64 r] w fun e w' => e = .returned (.bool true) ∧ Ext w w' := by
  obtain ⟨v, d, h⟩ := stepIs_ex T p i s u l r
  have c1 := Lib.hid fun w => control_Step T p i s u l r v d h w
  have c2 := Lib.hid fun w => additiveref49_Step T p i s u l r v d h w
  have eq := fun w => eqs T p i s v l w
  have e2 := beq_t (rfl : d = d)
  clear h
  go_enter Try.func10, Try.ntmps10
  go_wp2_with fail
  refine (c1.out _).mono ?_; rintro e w1 ⟨rfl, x_w1⟩
  obtain ⟨k_w1, f_w1⟩ := bcell x_w1
  have s_w1 := x_w1.size; (try simp at s_w1)
  have z0_w1 : w.heap.size < w1.heap.size := by omega
  have X_w1 := Lib.hid (show Ext w w1 from Ext.trans (by (repeat' (with_reducible first | refine Ext.drew ?_ | refine Ext.drewN ?_ _ | refine Ext.alloc ?_ _ | exact Ext.refl _ | fail | (refine Ext.setCell ?_ ?_ _; rotate_left; (focus (simp; try omega)))))) x_w1)
  clear x_w1 s_w1
  go_wp2_with fail
  refine (c2.out _).mono ?_; rintro e w2 ⟨rfl, x_w2⟩
  obtain ⟨k_w2, f_w2⟩ := bcell x_w2
  have s_w2 := x_w2.size; (try simp at s_w2)
  have z0_w2 : w.heap.size < w2.heap.size := by omega
  have z1_w2 : w1.heap.size < w2.heap.size := by omega
  have X_w2 := Lib.hid (show Ext w w2 from Ext.trans (by (repeat' (with_reducible first | refine Ext.drew ?_ | refine Ext.drewN ?_ _ | refine Ext.alloc ?_ _ | exact Ext.refl _ | exact X_w1.out | (refine Ext.setCell ?_ ?_ _; rotate_left; (focus (simp; try omega)))))) x_w2)
  clear x_w2 s_w2
  go_wp2_with fail
  refine (law_awake _).mono ?_; rintro e w3 ⟨rfl, x_w3⟩
  obtain ⟨k_w3, f_w3⟩ := bcell x_w3
  have X_w3 := Lib.hid (show Ext w w3 from Ext.trans (by (repeat' (with_reducible first | refine Ext.drew ?_ | refine Ext.drewN ?_ _ | refine Ext.alloc ?_ _ | exact Ext.refl _ | exact X_w2.out | exact X_w1.out | (refine Ext.setCell ?_ ?_ _; rotate_left; (focus (simp; try omega)))))) x_w3)
  clear x_w3
  go_wp2_with fail
  go_ret
  exact ⟨rfl, by (repeat' (with_reducible first | refine Ext.drew ?_ | refine Ext.drewN ?_ _ | refine Ext.alloc ?_ _ | exact Ext.refl _ | exact X_w3.out | exact X_w2.out | exact X_w1.out | (refine Ext.setCell ?_ ?_ _; rotate_left; (focus (simp; try omega)))))⟩
/-- What a step keeps. -/
theorem step_keeps {T p i s u l r v d : Int} (h : StepIs T p i s u l r v d) (hc : CVal T p i s u l) : CVal T p i s v l ∧ 0 ≤ d ∧ d ≤ 255 ∧ (T = 0 → d = 0) := by
  rcases h with ⟨_, rfl, rfl⟩ | ⟨_, _, _, hT, rfl, rfl⟩ | ⟨_, _, _, hT, hv, hd⟩
  · exact ⟨hc, by omega, by omega, fun _ => rfl⟩
  · refine ⟨?_, by omega, by omega, fun _ => rfl⟩
    unfold CVal at *; omega
  · refine ⟨?_, by omega, by omega, fun e => absurd e hT⟩
    unfold CVal at *; omega
theorem step_cold {T p i s u l r v d : Int} (h : StepIs T p i s u l r v d) (hc : CVal T p i s u l) (hp : l < p * (r - T)) : d = 0 := by
  rcases h with ⟨_, rfl, rfl⟩ | ⟨_, _, _, hT, rfl, rfl⟩ | ⟨_, _, _, hT, hv, hd⟩
  · rfl
  · rfl
  · have e : p * (T - r) = -(p * (r - T)) := by rw [← Int.mul_neg]; congr 1; omega
    unfold CVal at hc
    have hn : p * (T - r) + v < 0 := by omega
    have := Int.ediv_neg_of_neg_of_pos hn (show 0 < s by omega)
    omega
theorem step_mono {T p i s u l r1 r2 v1 v2 d1 d2 : Int} (h1 : StepIs T p i s u l r1 v1 d1) (h2 : StepIs T p i s u l r2 v2 d2) (b1 : -1073741824 ≤ r1) (b2 : r2 ≤ 1073741824) (hr : r1 ≤ r2) : v2 ≤ v1 ∧ d2 ≤ d1 := by
  by_cases hc : CVal T p i s u l
  · rcases h1 with ⟨h, _⟩ | ⟨_, _, _, hT, rfl, rfl⟩ | ⟨_, _, _, hT, hv, hd⟩
    · exact absurd ⟨hc, b1, by omega⟩ h
    · rcases h2 with ⟨h, _⟩ | ⟨_, _, _, _, rfl, rfl⟩ | ⟨_, _, _, hT', _⟩
      · exact absurd ⟨hc, by omega, b2⟩ h
      · omega
      · exact absurd hT hT'
    · rcases h2 with ⟨h, _⟩ | ⟨_, _, _, hT', _⟩ | ⟨_, _, _, _, hv', hd'⟩
      · exact absurd ⟨hc, by omega, b2⟩ h
      · exact absurd hT' hT
      · unfold CVal at hc
        have m1 := Int.mul_le_mul_of_nonneg_left (show T - r2 ≤ T - r1 by omega) (show 0 ≤ i by omega)
        have m2 := Int.mul_le_mul_of_nonneg_left (show T - r2 ≤ T - r1 by omega) (show 0 ≤ p by omega)
        have hvv : v2 ≤ v1 := by omega
        have := Int.ediv_le_ediv (show 0 < s by omega) (show p * (T - r2) + v2 ≤ p * (T - r1) + v1 by omega)
        omega
  · rcases h1 with ⟨_, rfl, rfl⟩ | ⟨h, _⟩ | ⟨h, _⟩
    · rcases h2 with ⟨_, rfl, rfl⟩ | ⟨h, _⟩ | ⟨h, _⟩
      · omega
      · exact absurd h hc
      · exact absurd h hc
    · exact absurd h hc
    · exact absurd h hc
set_option maxHeartbeats 2000000 in
theorem law_ControlMonotone (T p i s u l : Int) (a b : Int) (w : World) : Calls Try.prog 13 #[.agg #[.int .i64 T, .int .i64 p, .int .i64 i, .int .i64 s, .int .i64 u, .int .i64 l], .int .i64 a, .int .i64 b] w fun e w' => e = .returned (.bool true) ∧ Ext w w' := by
  have ka := Lib.hid law_awake
  by_cases h1 : a < -1073741824
  · have d1 := dlt_t h1
    clear h1
    go_enter Try.func13, Try.ntmps13
    go_wp2_with fail
    refine (ka.out _).mono ?_; rintro e w1 ⟨rfl, x_w1⟩
    obtain ⟨k_w1, f_w1⟩ := bcell x_w1
    have X_w1 := Lib.hid (show Ext w w1 from Ext.trans (by (repeat' (with_reducible first | refine Ext.drew ?_ | refine Ext.drewN ?_ _ | refine Ext.alloc ?_ _ | exact Ext.refl _ | fail | (refine Ext.setCell ?_ ?_ _; rotate_left; (focus (simp; try omega)))))) x_w1)
    clear x_w1
    go_wp2_with fail
    go_ret
    exact ⟨rfl, by (repeat' (with_reducible first | refine Ext.drew ?_ | refine Ext.drewN ?_ _ | refine Ext.alloc ?_ _ | exact Ext.refl _ | exact X_w1.out | (refine Ext.setCell ?_ ?_ _; rotate_left; (focus (simp; try omega)))))⟩
  by_cases h2 : 1073741824 < b
  · have d1 := dlt_f (show (-1073741824 : Int) ≤ a by omega)
    have d2 := dlt_t h2
    clear h1 h2
    go_enter Try.func13, Try.ntmps13
    go_wp2_with fail
    refine (ka.out _).mono ?_; rintro e w1 ⟨rfl, x_w1⟩
    obtain ⟨k_w1, f_w1⟩ := bcell x_w1
    have X_w1 := Lib.hid (show Ext w w1 from Ext.trans (by (repeat' (with_reducible first | refine Ext.drew ?_ | refine Ext.drewN ?_ _ | refine Ext.alloc ?_ _ | exact Ext.refl _ | fail | (refine Ext.setCell ?_ ?_ _; rotate_left; (focus (simp; try omega)))))) x_w1)
    clear x_w1
    go_wp2_with fail
    go_ret
    exact ⟨rfl, by (repeat' (with_reducible first | refine Ext.drew ?_ | refine Ext.drewN ?_ _ | refine Ext.alloc ?_ _ | exact Ext.refl _ | exact X_w1.out | (refine Ext.setCell ?_ ?_ _; rotate_left; (focus (simp; try omega)))))⟩
  by_cases h3 : b < a
  · have d1 := dlt_f (show (-1073741824 : Int) ≤ a by omega)
    have d2 := dlt_f (show b ≤ (1073741824 : Int) by omega)
    have d3 := dlt_t h3
    clear h1 h2 h3
    go_enter Try.func13, Try.ntmps13
    go_wp2_with fail
    refine (ka.out _).mono ?_; rintro e w1 ⟨rfl, x_w1⟩
    obtain ⟨k_w1, f_w1⟩ := bcell x_w1
    have X_w1 := Lib.hid (show Ext w w1 from Ext.trans (by (repeat' (with_reducible first | refine Ext.drew ?_ | refine Ext.drewN ?_ _ | refine Ext.alloc ?_ _ | exact Ext.refl _ | fail | (refine Ext.setCell ?_ ?_ _; rotate_left; (focus (simp; try omega)))))) x_w1)
    clear x_w1
    go_wp2_with fail
    go_ret
    exact ⟨rfl, by (repeat' (with_reducible first | refine Ext.drew ?_ | refine Ext.drewN ?_ _ | refine Ext.alloc ?_ _ | exact Ext.refl _ | exact X_w1.out | (refine Ext.setCell ?_ ?_ _; rotate_left; (focus (simp; try omega)))))⟩
  obtain ⟨v, d, h⟩ := stepIs_ex T p i s u l a
  obtain ⟨v', d', h'⟩ := stepIs_ex T p i s u l b
  obtain ⟨m1, m2⟩ := step_mono h h' (by omega) (by omega) (by omega)
  have c1 := Lib.hid fun w => control_Step T p i s u l a v d h w
  have c2 := Lib.hid fun w => control_Step T p i s u l b v' d' h' w
  have d1 := dlt_f (show (-1073741824 : Int) ≤ a by omega)
  have d2 := dlt_f (show b ≤ (1073741824 : Int) by omega)
  have d3 := dlt_f (show a ≤ b by omega)
  have d4 := dle_t m1
  have d5 := dle_t m2
  clear h h' h1 h2 h3 m1 m2
  go_enter Try.func13, Try.ntmps13
  go_wp2_with fail
  refine (c1.out _).mono ?_; rintro e w1 ⟨rfl, x_w1⟩
  obtain ⟨k_w1, f_w1⟩ := bcell x_w1
  have s_w1 := x_w1.size; (try simp at s_w1)
  have z0_w1 : w.heap.size < w1.heap.size := by omega
  have X_w1 := Lib.hid (show Ext w w1 from Ext.trans (by (repeat' (with_reducible first | refine Ext.drew ?_ | refine Ext.drewN ?_ _ | refine Ext.alloc ?_ _ | exact Ext.refl _ | fail | (refine Ext.setCell ?_ ?_ _; rotate_left; (focus (simp; try omega)))))) x_w1)
  clear x_w1 s_w1
  go_wp2_with fail
  refine (c2.out _).mono ?_; rintro e w2 ⟨rfl, x_w2⟩
  obtain ⟨k_w2, f_w2⟩ := bcell x_w2
  have s_w2 := x_w2.size; (try simp at s_w2)
  have z0_w2 : w.heap.size < w2.heap.size := by omega
  have z1_w2 : w1.heap.size < w2.heap.size := by omega
  have X_w2 := Lib.hid (show Ext w w2 from Ext.trans (by (repeat' (with_reducible first | refine Ext.drew ?_ | refine Ext.drewN ?_ _ | refine Ext.alloc ?_ _ | exact Ext.refl _ | exact X_w1.out | (refine Ext.setCell ?_ ?_ _; rotate_left; (focus (simp; try omega)))))) x_w2)
  clear x_w2 s_w2
  go_wp2_with fail
  refine (ka.out _).mono ?_; rintro e w3 ⟨rfl, x_w3⟩
  obtain ⟨k_w3, f_w3⟩ := bcell x_w3
  have X_w3 := Lib.hid (show Ext w w3 from Ext.trans (by (repeat' (with_reducible first | refine Ext.drew ?_ | refine Ext.drewN ?_ _ | refine Ext.alloc ?_ _ | exact Ext.refl _ | exact X_w2.out | exact X_w1.out | (refine Ext.setCell ?_ ?_ _; rotate_left; (focus (simp; try omega)))))) x_w3)
  clear x_w3
  go_wp2_with fail
  go_ret
  exact ⟨rfl, by (repeat' (with_reducible first | refine Ext.drew ?_ | refine Ext.drewN ?_ _ | refine Ext.alloc ?_ _ | exact Ext.refl _ | exact X_w3.out | exact X_w2.out | exact X_w1.out | (refine Ext.setCell ?_ ?_ _; rotate_left; (focus (simp; try omega)))))⟩
end Go.Proofs.Ytnljefglidhnjaa

