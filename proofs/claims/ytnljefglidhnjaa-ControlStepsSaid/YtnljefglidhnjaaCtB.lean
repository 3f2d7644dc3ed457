/-
  Contracts of package control and of the document's own answers: Step and Aim.
-/
import Derived.Test.YtnljefglidhnjaaCtA
import Derived.IntWalk
namespace Go.Proofs.Ytnljefglidhnjaa
open Go.RowKit
/-- (v, d) is what Step answers: the sum and the duty. -/
def StepIs (T p i s u l r v d : Int) : Prop := (¬ (CVal T p i s u l ∧ -1073741824 ≤ r ∧ r ≤ 1073741824) ∧ v = u ∧ d = 0) ∨ (CVal T p i s u l ∧ -1073741824 ≤ r ∧ r ≤ 1073741824 ∧ T = 0 ∧ v = 0 ∧ d = 0) ∨
  (CVal T p i s u l ∧ -1073741824 ≤ r ∧ r ≤ 1073741824 ∧ T ≠ 0 ∧ v = max 0 (min (u + i * (T - r)) l) ∧ d = max 0 (min ((p * (T - r) + v) / s) 255))
theorem stepIs_ex (T p i s u l r : Int) : ∃ v d, StepIs T p i s u l r v d := by
  by_cases h : CVal T p i s u l ∧ -1073741824 ≤ r ∧ r ≤ 1073741824
  · by_cases hT : T = 0
    · exact ⟨_, _, .inr (.inl ⟨h.1, h.2.1, h.2.2, hT, rfl, rfl⟩)⟩
    · exact ⟨_, _, .inr (.inr ⟨h.1, h.2.1, h.2.2, hT, rfl, rfl⟩)⟩
  · exact ⟨_, _, .inl ⟨h, rfl, rfl⟩⟩
set_option maxHeartbeats 4000000 in
theorem control_Step_no (T p i s u l : Int) (r : Int) (h : ¬ CVal T p i s u l) (w : World) :
    Calls Try.prog 30 #[.agg #[.int .i64 T, .int .i64 p, .int .i64 i, .int .i64 s, .int .i64 u, .int .i64 l], .int .i64 r] w fun e w' => e = .returned (.tuple #[.agg #[.int .i64 T, .int .i64 p, .int .i64 i, .int .i64 s, .int .i64 u, .int .i64 l], .int .i64 0]) ∧ Ext w w' := by
  have c1 := Lib.hid fun w => control_Valid T p i s u l false (by rw [decide_eq_false h]) w
  clear h
  go_enter Try.func30, Try.ntmps30
  go_wp2_with fail
  refine (c1.out _).mono ?_; rintro e w1 ⟨rfl, x_w1⟩
  obtain ⟨k_w1, f_w1⟩ := bcell x_w1
  have s_w1 := x_w1.size; simp at s_w1
  have z0_w1 : w.heap.size < w1.heap.size := by omega
  have z1_w1 : w.heap.size + 1 < w1.heap.size := by omega
  have X_w1 := Lib.hid (show Ext w w1 from Ext.trans (by (repeat' (with_reducible first | refine Ext.drew ?_ | refine Ext.drewN ?_ _ | refine Ext.alloc ?_ _ | exact Ext.refl _ | fail | (refine Ext.setCell ?_ ?_ _; rotate_left; (focus (simp; try omega)))))) x_w1)
  clear x_w1 s_w1
  go_wp2_with fail
  exact bodyPost_ret (v := .tuple #[.agg #[.int .i64 T, .int .i64 p, .int .i64 i, .int .i64 s, .int .i64 u, .int .i64 l], .int .i64 0]) (by simp [results, Try.results30, go_sem, *]) rfl ⟨rfl, by (repeat' (with_reducible first | refine Ext.drew ?_ | refine Ext.drewN ?_ _ | refine Ext.alloc ?_ _ | exact Ext.refl _ | exact X_w1.out | (refine Ext.setCell ?_ ?_ _; rotate_left; (focus (simp; try omega)))))⟩
set_option maxHeartbeats 4000000 in
theorem control_Step_far (T p i s u l : Int) (r : Int) (h : CVal T p i s u l) (hr : r < -1073741824 ∨ 1073741824 < r) (w : World) :
    Calls Try.prog 30 #[.agg #[.int .i64 T, .int .i64 p, .int .i64 i, .int .i64 s, .int .i64 u, .int .i64 l], .int .i64 r] w fun e w' => e = .returned (.tuple #[.agg #[.int .i64 T, .int .i64 p, .int .i64 i, .int .i64 s, .int .i64 u, .int .i64 l], .int .i64 0]) ∧ Ext w w' := by
  have c1 := Lib.hid fun w => control_Valid T p i s u l true (by rw [decide_eq_true h]) w
  clear h
  rcases hr with hr | hr
  · have d1 := dlt_t hr
    clear hr
    go_enter Try.func30, Try.ntmps30
    go_wp2_with fail
    refine (c1.out _).mono ?_; rintro e w1 ⟨rfl, x_w1⟩
    obtain ⟨k_w1, f_w1⟩ := bcell x_w1
    have s_w1 := x_w1.size; simp at s_w1
    have z0_w1 : w.heap.size < w1.heap.size := by omega
    have z1_w1 : w.heap.size + 1 < w1.heap.size := by omega
    have X_w1 := Lib.hid (show Ext w w1 from Ext.trans (by (repeat' (with_reducible first | refine Ext.drew ?_ | refine Ext.drewN ?_ _ | refine Ext.alloc ?_ _ | exact Ext.refl _ | fail | (refine Ext.setCell ?_ ?_ _; rotate_left; (focus (simp; try omega)))))) x_w1)
    clear x_w1 s_w1
    go_wp2_with fail
    exact bodyPost_ret (v := .tuple #[.agg #[.int .i64 T, .int .i64 p, .int .i64 i, .int .i64 s, .int .i64 u, .int .i64 l], .int .i64 0]) (by simp [results, Try.results30, go_sem, *]) rfl ⟨rfl, by (repeat' (with_reducible first | refine Ext.drew ?_ | refine Ext.drewN ?_ _ | refine Ext.alloc ?_ _ | exact Ext.refl _ | exact X_w1.out | (refine Ext.setCell ?_ ?_ _; rotate_left; (focus (simp; try omega)))))⟩
  · have d1 := dlt_f (show (-1073741824 : Int) ≤ r by omega)
    have d2 := dlt_t hr
    clear hr
    go_enter Try.func30, Try.ntmps30
    go_wp2_with fail
    refine (c1.out _).mono ?_; rintro e w1 ⟨rfl, x_w1⟩
    obtain ⟨k_w1, f_w1⟩ := bcell x_w1
    have s_w1 := x_w1.size; simp at s_w1
    have z0_w1 : w.heap.size < w1.heap.size := by omega
    have z1_w1 : w.heap.size + 1 < w1.heap.size := by omega
    have X_w1 := Lib.hid (show Ext w w1 from Ext.trans (by (repeat' (with_reducible first | refine Ext.drew ?_ | refine Ext.drewN ?_ _ | refine Ext.alloc ?_ _ | exact Ext.refl _ | fail | (refine Ext.setCell ?_ ?_ _; rotate_left; (focus (simp; try omega)))))) x_w1)
    clear x_w1 s_w1
    go_wp2_with fail
    exact bodyPost_ret (v := .tuple #[.agg #[.int .i64 T, .int .i64 p, .int .i64 i, .int .i64 s, .int .i64 u, .int .i64 l], .int .i64 0]) (by simp [results, Try.results30, go_sem, *]) rfl ⟨rfl, by (repeat' (with_reducible first | refine Ext.drew ?_ | refine Ext.drewN ?_ _ | refine Ext.alloc ?_ _ | exact Ext.refl _ | exact X_w1.out | (refine Ext.setCell ?_ ?_ _; rotate_left; (focus (simp; try omega)))))⟩
set_option maxHeartbeats 4000000 in
theorem control_Step_off (p i s u l r : Int) (h : CVal 0 p i s u l) (r0 : -1073741824 ≤ r) (r1 : r ≤ 1073741824) (w : World) :
    Calls Try.prog 30 #[.agg #[.int .i64 0, .int .i64 p, .int .i64 i, .int .i64 s, .int .i64 u, .int .i64 l], .int .i64 r] w fun e w' => e = .returned (.tuple #[.agg #[.int .i64 0, .int .i64 p, .int .i64 i, .int .i64 s, .int .i64 0, .int .i64 l], .int .i64 0]) ∧ Ext w w' := by
  have c1 := Lib.hid fun w => control_Valid 0 p i s u l true (by rw [decide_eq_true h]) w
  have d1 := dlt_f r0
  have d2 := dlt_f r1
  clear h r0 r1
  go_enter Try.func30, Try.ntmps30
  go_wp2_with fail
  refine (c1.out _).mono ?_; rintro e w1 ⟨rfl, x_w1⟩
  obtain ⟨k_w1, f_w1⟩ := bcell x_w1
  have s_w1 := x_w1.size; simp at s_w1
  have z0_w1 : w.heap.size < w1.heap.size := by omega
  have z1_w1 : w.heap.size + 1 < w1.heap.size := by omega
  have q0_w1 : w1.cell? ⟨w.heap.size, 0, none⟩ = some (.int .i64 0) := by rw [k_w1 _ _ (by first | (simp; done) | (simp; omega))]; go_simp
  have q1_w1 : w1.cell? ⟨w.heap.size, 1, none⟩ = some (.int .i64 p) := by rw [k_w1 _ _ (by first | (simp; done) | (simp; omega))]; go_simp
  have q2_w1 : w1.cell? ⟨w.heap.size, 2, none⟩ = some (.int .i64 i) := by rw [k_w1 _ _ (by first | (simp; done) | (simp; omega))]; go_simp
  have q3_w1 : w1.cell? ⟨w.heap.size, 3, none⟩ = some (.int .i64 s) := by rw [k_w1 _ _ (by first | (simp; done) | (simp; omega))]; go_simp
  have q4_w1 : w1.cell? ⟨w.heap.size, 4, none⟩ = some (.int .i64 u) := by rw [k_w1 _ _ (by first | (simp; done) | (simp; omega))]; go_simp
  have q5_w1 : w1.cell? ⟨w.heap.size, 5, none⟩ = some (.int .i64 l) := by rw [k_w1 _ _ (by first | (simp; done) | (simp; omega))]; go_simp
  have X_w1 := Lib.hid (show Ext w w1 from Ext.trans (by (repeat' (with_reducible first | refine Ext.drew ?_ | refine Ext.drewN ?_ _ | refine Ext.alloc ?_ _ | exact Ext.refl _ | fail | (refine Ext.setCell ?_ ?_ _; rotate_left; (focus (simp; try omega)))))) x_w1)
  clear x_w1 s_w1
  go_wp2_with fail
  exact bodyPost_ret (v := .tuple #[.agg #[.int .i64 0, .int .i64 p, .int .i64 i, .int .i64 s, .int .i64 0, .int .i64 l], .int .i64 0]) (by simp [results, Try.results30, go_sem, *]) rfl ⟨rfl, by (repeat' (with_reducible first | refine Ext.drew ?_ | refine Ext.drewN ?_ _ | refine Ext.alloc ?_ _ | exact Ext.refl _ | exact X_w1.out | (refine Ext.setCell ?_ ?_ _; rotate_left; (focus (simp; try omega)))))⟩
set_option maxHeartbeats 4000000 in
theorem control_Step_on (T p i s u l : Int) (r v d : Int) (h : CVal T p i s u l) (r0 : -1073741824 ≤ r) (r1 : r ≤ 1073741824) (hT : T ≠ 0) (hv : v = max 0 (min (u + i * (T - r)) l)) (hd : d = max 0 (min ((p * (T - r) + v) / s) 255)) (w : World) :
    Calls Try.prog 30 #[.agg #[.int .i64 T, .int .i64 p, .int .i64 i, .int .i64 s, .int .i64 u, .int .i64 l], .int .i64 r] w fun e w' => e = .returned (.tuple #[.agg #[.int .i64 T, .int .i64 p, .int .i64 i, .int .i64 s, .int .i64 v, .int .i64 l], .int .i64 d]) ∧ Ext w w' := by
  have c1 := Lib.hid fun w => control_Valid T p i s u l true (by rw [decide_eq_true h]) w
  have d1 := dlt_f r0
  have d2 := dlt_f r1
  have d3 := beq_f hT
  obtain ⟨g0, g1, g2, g3, g4, g5, g6, g7, g8, g9, g10, g11⟩ := h
  have m1 := mul_in (a := i) (b := T - r) (k := 1048576) (m := 1074141824) (by omega) (by omega) (by omega) (by omega)
  have m2 := mul_in (a := p) (b := T - r) (k := 1048576) (m := 1074141824) (by omega) (by omega) (by omega) (by omega)
  have c2 := Lib.hid fun w => num_Clamp (u + i * (T - r)) 0 l w
  rw [← hv] at c2
  have v0 : 0 ≤ v := by omega
  have v1 : v ≤ 1099511627776 := by omega
  have c3 := Lib.hid fun w => num_FloorP (p * (T - r) + v) s (by omega) (by omega) (by omega) (by omega) w
  have c4 := Lib.hid fun w => num_Clamp ((p * (T - r) + v) / s) 0 255 w
  rw [← hd] at c4
  clear hv hd hT
  go_enter Try.func30, Try.ntmps30
  go_wp2_with fail
  refine (c1.out _).mono ?_; rintro e w1 ⟨rfl, x_w1⟩
  obtain ⟨k_w1, f_w1⟩ := bcell x_w1
  have s_w1 := x_w1.size; simp at s_w1
  have z0_w1 : w.heap.size < w1.heap.size := by omega
  have z1_w1 : w.heap.size + 1 < w1.heap.size := by omega
  have q0_w1 : w1.cell? ⟨w.heap.size, 0, none⟩ = some (.int .i64 T) := by rw [k_w1 _ _ (by first | (simp; done) | (simp; omega))]; go_simp
  have q1_w1 : w1.cell? ⟨w.heap.size, 1, none⟩ = some (.int .i64 p) := by rw [k_w1 _ _ (by first | (simp; done) | (simp; omega))]; go_simp
  have q2_w1 : w1.cell? ⟨w.heap.size, 2, none⟩ = some (.int .i64 i) := by rw [k_w1 _ _ (by first | (simp; done) | (simp; omega))]; go_simp
  have q3_w1 : w1.cell? ⟨w.heap.size, 3, none⟩ = some (.int .i64 s) := by rw [k_w1 _ _ (by first | (simp; done) | (simp; omega))]; go_simp
  have q4_w1 : w1.cell? ⟨w.heap.size, 4, none⟩ = some (.int .i64 u) := by rw [k_w1 _ _ (by first | (simp; done) | (simp; omega))]; go_simp
  have q5_w1 : w1.cell? ⟨w.heap.size, 5, none⟩ = some (.int .i64 l) := by rw [k_w1 _ _ (by first | (simp; done) | (simp; omega))]; go_simp
  have X_w1 := Lib.hid (show Ext w w1 from Ext.trans (by (repeat' (with_reducible first | refine Ext.drew ?_ | refine Ext.drewN ?_ _ | refine Ext.alloc ?_ _ | exact Ext.refl _ | fail | (refine Ext.setCell ?_ ?_ _; rotate_left; (focus (simp; try omega)))))) x_w1)
  clear x_w1 s_w1
  go_wp2_with fail
  refine (c2.out _).mono ?_; rintro e w' ⟨rfl, rfl⟩
  go_wp2_with fail
  refine (c3.out _).mono ?_; rintro e w2 ⟨rfl, x_w2⟩
  obtain ⟨k_w2, f_w2⟩ := bcell x_w2
  have s_w2 := x_w2.size; simp at s_w2
  have z0_w2 : w.heap.size < w2.heap.size := by omega
  have z1_w2 : w.heap.size + 1 < w2.heap.size := by omega
  have q0_w2 : w2.cell? ⟨w.heap.size, 0, none⟩ = some (.int .i64 T) := by rw [k_w2 _ _ (by first | (simp; done) | (simp; omega))]; go_simp
  have q1_w2 : w2.cell? ⟨w.heap.size, 1, none⟩ = some (.int .i64 p) := by rw [k_w2 _ _ (by first | (simp; done) | (simp; omega))]; go_simp
  have q2_w2 : w2.cell? ⟨w.heap.size, 2, none⟩ = some (.int .i64 i) := by rw [k_w2 _ _ (by first | (simp; done) | (simp; omega))]; go_simp
  have q3_w2 : w2.cell? ⟨w.heap.size, 3, none⟩ = some (.int .i64 s) := by rw [k_w2 _ _ (by first | (simp; done) | (simp; omega))]; go_simp
  have q4_w2 : w2.cell? ⟨w.heap.size, 4, none⟩ = some (.int .i64 v) := by rw [k_w2 _ _ (by first | (simp; done) | (simp; omega))]; go_simp
  have q5_w2 : w2.cell? ⟨w.heap.size, 5, none⟩ = some (.int .i64 l) := by rw [k_w2 _ _ (by first | (simp; done) | (simp; omega))]; go_simp
  have X_w2 := Lib.hid (show Ext w w2 from Ext.trans (by (repeat' (with_reducible first | refine Ext.drew ?_ | refine Ext.drewN ?_ _ | refine Ext.alloc ?_ _ | exact Ext.refl _ | exact X_w1.out | (refine Ext.setCell ?_ ?_ _; rotate_left; (focus (simp; try omega)))))) x_w2)
  clear x_w2 s_w2
  go_wp2_with fail
  refine wp_region_held_drew (S := fun w' => w'.cell? ⟨w.heap.size, 0, none⟩ = some (.int .i64 T) ∧ w'.cell? ⟨w.heap.size, 1, none⟩ = some (.int .i64 p) ∧ w'.cell? ⟨w.heap.size, 2, none⟩ = some (.int .i64 i) ∧ w'.cell? ⟨w.heap.size, 3, none⟩ = some (.int .i64 s) ∧ w'.cell? ⟨w.heap.size, 4, none⟩ = some (.int .i64 v) ∧ w'.cell? ⟨w.heap.size, 5, none⟩ = some (.int .i64 l)) (by kernel_rfl) (by (try dsimp only); first | (with_reducible assumption) | (refine ⟨?_, ?_, ?_, ?_, ?_, ?_⟩ <;> first | (with_reducible assumption) | (go_simp; done)) | go_keep) (fun hHeld => ?_)
  refine htake (i := 0) (v := ?_) (some 54) rfl rfl (by kernel_rfl) (by kernel_rfl) (by kernel_rfl) (fun _ _ _ h => h) (Or.inl ⟨by rfl, ?_⟩) (by assumption) ?_; rotate_left; (focus (intro w hSw; (try dsimp only at hSw); go_simp; (try with_reducible rfl))); (try simp only [Act.put]); (try simp only [List.setIfInBounds_toArray]); (try simp only [List.set_cons_succ]); (try simp only [List.set_cons_zero])
  refine htake (i := 1) (v := ?_) (some 55) rfl rfl (by kernel_rfl) (by kernel_rfl) (by kernel_rfl) (fun _ _ _ h => h) (Or.inl ⟨by rfl, ?_⟩) (by assumption) ?_; rotate_left; (focus (intro w hSw; (try dsimp only at hSw); go_simp; (try with_reducible rfl))); (try simp only [Act.put]); (try simp only [List.setIfInBounds_toArray]); (try simp only [List.set_cons_succ]); (try simp only [List.set_cons_zero])
  refine wpAnyH_ready (rs := [2]) (by kernel_rfl) (by simp) ?_
  refine AllReadyH.cons rfl (fun K hK => ?_) AllReadyH.nil
  go_simp
  refine (c4.out _).mono ?_; rintro e w' ⟨rfl, rfl⟩
  (try go_wp2_with fail)
  refine hK.out _ _ ?_ (fun hHeld => ?_)
  · (try dsimp only); first | (with_reducible assumption) | (refine ⟨?_, ?_, ?_, ?_, ?_, ?_⟩ <;> first | (with_reducible assumption) | (go_simp; done)) | go_keep
  clear hK K
  (try simp only [Act.put]); (try simp only [List.setIfInBounds_toArray]); (try simp only [List.set_cons_succ]); (try simp only [List.set_cons_zero])
  refine wpAnyH_ready (rs := [3]) (by kernel_rfl) (by simp) ?_
  refine AllReadyH.cons rfl (fun K hK => ?_) AllReadyH.nil
  go_simp
  refine hK.out _ _ ?_ (fun hHeld => ?_)
  · (try dsimp only); first | (with_reducible assumption) | (refine ⟨?_, ?_, ?_, ?_, ?_, ?_⟩ <;> first | (with_reducible assumption) | (go_simp; done)) | go_keep
  clear hK K
  (try simp only [Act.put]); (try simp only [List.setIfInBounds_toArray]); (try simp only [List.set_cons_succ]); (try simp only [List.set_cons_zero])
  refine htake (i := 4) (v := ?_) (some 5) rfl rfl (by kernel_rfl) (by kernel_rfl) (by kernel_rfl) (fun _ _ _ h => h) (Or.inl ⟨by rfl, ?_⟩) (by assumption) ?_; rotate_left; (focus (intro w hSw; (try dsimp only at hSw); go_simp; (try with_reducible rfl))); (try simp only [Act.put]); (try simp only [List.setIfInBounds_toArray]); (try simp only [List.set_cons_succ]); (try simp only [List.set_cons_zero])
  refine wpAnyH_done (by kernel_rfl) ?_ _
  go_wp2_with fail
  exact bodyPost_ret (v := .tuple #[.agg #[.int .i64 T, .int .i64 p, .int .i64 i, .int .i64 s, .int .i64 v, .int .i64 l], .int .i64 d]) (by simp [results, Try.results30, go_sem, *]) rfl ⟨rfl, by (repeat' (with_reducible first | refine Ext.drew ?_ | refine Ext.drewN ?_ _ | refine Ext.alloc ?_ _ | exact Ext.refl _ | exact X_w2.out | exact X_w1.out | (refine Ext.setCell ?_ ?_ _; rotate_left; (focus (simp; try omega)))))⟩
theorem control_Step (T p i s u l r v d : Int) (h : StepIs T p i s u l r v d) (w : World) :
    Calls Try.prog 30 #[.agg #[.int .i64 T, .int .i64 p, .int .i64 i, .int .i64 s, .int .i64 u, .int .i64 l], .int .i64 r] w fun e w' => e = .returned (.tuple #[.agg #[.int .i64 T, .int .i64 p, .int .i64 i, .int .i64 s, .int .i64 v, .int .i64 l], .int .i64 d]) ∧ Ext w w' := by
  rcases h with ⟨h, rfl, rfl⟩ | ⟨h, r0, r1, rfl, rfl, rfl⟩ | ⟨h, r0, r1, hT, hv, hd⟩
  · by_cases hc : CVal T p i s v l
    · exact control_Step_far T p i s v l r hc (by have hh : ¬ (-1073741824 ≤ r ∧ r ≤ 1073741824) := fun e => h ⟨hc, e⟩; omega) w
    · exact control_Step_no T p i s v l r hc w
  · exact control_Step_off p i s u l r h r0 r1 w
  · exact control_Step_on T p i s u l r v d h r0 r1 hT hv hd w
set_option maxHeartbeats 4000000 in
theorem control_Aim_no (T p i s u l t : Int) (h : ¬ (CVal T p i s u l ∧ 0 ≤ t ∧ t ≤ 400000)) (w : World) :
    Calls Try.prog 25 #[.agg #[.int .i64 T, .int .i64 p, .int .i64 i, .int .i64 s, .int .i64 u, .int .i64 l], .int .i64 t] w fun e w' => e = .returned (.tuple #[.agg #[.int .i64 0, .int .i64 0, .int .i64 0, .int .i64 0, .int .i64 0, .int .i64 0], .int .i64 1]) ∧ Ext w w' := by
  by_cases hc : CVal T p i s u l
  · have c1 := Lib.hid fun w => control_Valid T p i s u l true (by rw [decide_eq_true hc]) w
    have hh : ¬ (0 ≤ t ∧ t ≤ 400000) := fun e => h ⟨hc, e⟩
    have ht : t < 0 ∨ 400000 < t := by omega
    clear h hc hh
    rcases ht with hr | hr
    · have d1 := dlt_t hr
      clear hr
      go_enter Try.func25, Try.ntmps25
      go_wp2_with fail
      refine (c1.out _).mono ?_; rintro e w1 ⟨rfl, x_w1⟩
      obtain ⟨k_w1, f_w1⟩ := bcell x_w1
      have s_w1 := x_w1.size; simp at s_w1
      have z0_w1 : w.heap.size < w1.heap.size := by omega
      have z1_w1 : w.heap.size + 1 < w1.heap.size := by omega
      have X_w1 := Lib.hid (show Ext w w1 from Ext.trans (by (repeat' (with_reducible first | refine Ext.drew ?_ | refine Ext.drewN ?_ _ | refine Ext.alloc ?_ _ | exact Ext.refl _ | fail | (refine Ext.setCell ?_ ?_ _; rotate_left; (focus (simp; try omega)))))) x_w1)
      clear x_w1 s_w1
      go_wp2_with fail
      exact bodyPost_ret (v := .tuple #[.agg #[.int .i64 0, .int .i64 0, .int .i64 0, .int .i64 0, .int .i64 0, .int .i64 0], .int .i64 1]) (by simp [results, Try.results25, go_sem, *]) rfl ⟨rfl, by (repeat' (with_reducible first | refine Ext.drew ?_ | refine Ext.drewN ?_ _ | refine Ext.alloc ?_ _ | exact Ext.refl _ | exact X_w1.out | (refine Ext.setCell ?_ ?_ _; rotate_left; (focus (simp; try omega)))))⟩
    · have d1 := dlt_f (show (0 : Int) ≤ t by omega)
      have d2 := dlt_t hr
      clear hr
      go_enter Try.func25, Try.ntmps25
      go_wp2_with fail
      refine (c1.out _).mono ?_; rintro e w1 ⟨rfl, x_w1⟩
      obtain ⟨k_w1, f_w1⟩ := bcell x_w1
      have s_w1 := x_w1.size; simp at s_w1
      have z0_w1 : w.heap.size < w1.heap.size := by omega
      have z1_w1 : w.heap.size + 1 < w1.heap.size := by omega
      have X_w1 := Lib.hid (show Ext w w1 from Ext.trans (by (repeat' (with_reducible first | refine Ext.drew ?_ | refine Ext.drewN ?_ _ | refine Ext.alloc ?_ _ | exact Ext.refl _ | fail | (refine Ext.setCell ?_ ?_ _; rotate_left; (focus (simp; try omega)))))) x_w1)
      clear x_w1 s_w1
      go_wp2_with fail
      exact bodyPost_ret (v := .tuple #[.agg #[.int .i64 0, .int .i64 0, .int .i64 0, .int .i64 0, .int .i64 0, .int .i64 0], .int .i64 1]) (by simp [results, Try.results25, go_sem, *]) rfl ⟨rfl, by (repeat' (with_reducible first | refine Ext.drew ?_ | refine Ext.drewN ?_ _ | refine Ext.alloc ?_ _ | exact Ext.refl _ | exact X_w1.out | (refine Ext.setCell ?_ ?_ _; rotate_left; (focus (simp; try omega)))))⟩
  · have c1 := Lib.hid fun w => control_Valid T p i s u l false (by rw [decide_eq_false hc]) w
    clear h hc
    go_enter Try.func25, Try.ntmps25
    go_wp2_with fail
    refine (c1.out _).mono ?_; rintro e w1 ⟨rfl, x_w1⟩
    obtain ⟨k_w1, f_w1⟩ := bcell x_w1
    have s_w1 := x_w1.size; simp at s_w1
    have z0_w1 : w.heap.size < w1.heap.size := by omega
    have z1_w1 : w.heap.size + 1 < w1.heap.size := by omega
    have X_w1 := Lib.hid (show Ext w w1 from Ext.trans (by (repeat' (with_reducible first | refine Ext.drew ?_ | refine Ext.drewN ?_ _ | refine Ext.alloc ?_ _ | exact Ext.refl _ | fail | (refine Ext.setCell ?_ ?_ _; rotate_left; (focus (simp; try omega)))))) x_w1)
    clear x_w1 s_w1
    go_wp2_with fail
    exact bodyPost_ret (v := .tuple #[.agg #[.int .i64 0, .int .i64 0, .int .i64 0, .int .i64 0, .int .i64 0, .int .i64 0], .int .i64 1]) (by simp [results, Try.results25, go_sem, *]) rfl ⟨rfl, by (repeat' (with_reducible first | refine Ext.drew ?_ | refine Ext.drewN ?_ _ | refine Ext.alloc ?_ _ | exact Ext.refl _ | exact X_w1.out | (refine Ext.setCell ?_ ?_ _; rotate_left; (focus (simp; try omega)))))⟩
set_option maxHeartbeats 4000000 in
theorem control_Aim_ok (T p i s u l t : Int) (h : CVal T p i s u l) (t0 : 0 ≤ t) (t1 : t ≤ 400000) (w : World) :
    Calls Try.prog 25 #[.agg #[.int .i64 T, .int .i64 p, .int .i64 i, .int .i64 s, .int .i64 u, .int .i64 l], .int .i64 t] w fun e w' => e = .returned (.tuple #[.agg #[.int .i64 t, .int .i64 p, .int .i64 i, .int .i64 s, .int .i64 0, .int .i64 l], .int .i64 0]) ∧ Ext w w' := by
  have c1 := Lib.hid fun w => control_Valid T p i s u l true (by rw [decide_eq_true h]) w
  have d1 := dlt_f t0
  have d2 := dlt_f t1
  clear h t0 t1
  go_enter Try.func25, Try.ntmps25
  go_wp2_with fail
  refine (c1.out _).mono ?_; rintro e w1 ⟨rfl, x_w1⟩
  obtain ⟨k_w1, f_w1⟩ := bcell x_w1
  have s_w1 := x_w1.size; simp at s_w1
  have z0_w1 : w.heap.size < w1.heap.size := by omega
  have z1_w1 : w.heap.size + 1 < w1.heap.size := by omega
  have q0_w1 : w1.cell? ⟨w.heap.size, 0, none⟩ = some (.int .i64 T) := by rw [k_w1 _ _ (by first | (simp; done) | (simp; omega))]; go_simp
  have q1_w1 : w1.cell? ⟨w.heap.size, 1, none⟩ = some (.int .i64 p) := by rw [k_w1 _ _ (by first | (simp; done) | (simp; omega))]; go_simp
  have q2_w1 : w1.cell? ⟨w.heap.size, 2, none⟩ = some (.int .i64 i) := by rw [k_w1 _ _ (by first | (simp; done) | (simp; omega))]; go_simp
  have q3_w1 : w1.cell? ⟨w.heap.size, 3, none⟩ = some (.int .i64 s) := by rw [k_w1 _ _ (by first | (simp; done) | (simp; omega))]; go_simp
  have q4_w1 : w1.cell? ⟨w.heap.size, 4, none⟩ = some (.int .i64 u) := by rw [k_w1 _ _ (by first | (simp; done) | (simp; omega))]; go_simp
  have q5_w1 : w1.cell? ⟨w.heap.size, 5, none⟩ = some (.int .i64 l) := by rw [k_w1 _ _ (by first | (simp; done) | (simp; omega))]; go_simp
  have X_w1 := Lib.hid (show Ext w w1 from Ext.trans (by (repeat' (with_reducible first | refine Ext.drew ?_ | refine Ext.drewN ?_ _ | refine Ext.alloc ?_ _ | exact Ext.refl _ | fail | (refine Ext.setCell ?_ ?_ _; rotate_left; (focus (simp; try omega)))))) x_w1)
  clear x_w1 s_w1
  go_wp2_with fail
  exact bodyPost_ret (v := .tuple #[.agg #[.int .i64 t, .int .i64 p, .int .i64 i, .int .i64 s, .int .i64 0, .int .i64 l], .int .i64 0]) (by simp [results, Try.results25, go_sem, *]) rfl ⟨rfl, by (repeat' (with_reducible first | refine Ext.drew ?_ | refine Ext.drewN ?_ _ | refine Ext.alloc ?_ _ | exact Ext.refl _ | exact X_w1.out | (refine Ext.setCell ?_ ?_ _; rotate_left; (focus (simp; try omega)))))⟩
set_option maxHeartbeats 4000000 in
theorem additiveref49_Step_no (T p i s u l : Int) (r : Int) (h : ¬ CVal T p i s u l) (w : World) :
    Calls Try.prog 31 #[.agg #[.int .i64 T, .int .i64 p, .int .i64 i, .int .i64 s, .int .i64 u, .int .i64 l], .int .i64 r] w fun e w' => e = .returned (.tuple #[.agg #[.int .i64 T, .int .i64 p, .int .i64 i, .int .i64 s, .int .i64 u, .int .i64 l], .int .i64 0]) ∧ Ext w w' := by
  have c1 := Lib.hid fun w => ref_CValid T p i s u l false (by rw [decide_eq_false h]) w
  clear h
  go_enter Try.func31, Try.ntmps31
  go_wp2_with fail
  refine (c1.out _).mono ?_; rintro e w1 ⟨rfl, x_w1⟩
  obtain ⟨k_w1, f_w1⟩ := bcell x_w1
  have s_w1 := x_w1.size; simp at s_w1
  have z0_w1 : w.heap.size < w1.heap.size := by omega
  have z1_w1 : w.heap.size + 1 < w1.heap.size := by omega
  have X_w1 := Lib.hid (show Ext w w1 from Ext.trans (by (repeat' (with_reducible first | refine Ext.drew ?_ | refine Ext.drewN ?_ _ | refine Ext.alloc ?_ _ | exact Ext.refl _ | fail | (refine Ext.setCell ?_ ?_ _; rotate_left; (focus (simp; try omega)))))) x_w1)
  clear x_w1 s_w1
  go_wp2_with fail
  exact bodyPost_ret (v := .tuple #[.agg #[.int .i64 T, .int .i64 p, .int .i64 i, .int .i64 s, .int .i64 u, .int .i64 l], .int .i64 0]) (by simp [results, Try.results31, go_sem, *]) rfl ⟨rfl, by (repeat' (with_reducible first | refine Ext.drew ?_ | refine Ext.drewN ?_ _ | refine Ext.alloc ?_ _ | exact Ext.refl _ | exact X_w1.out | (refine Ext.setCell ?_ ?_ _; rotate_left; (focus (simp; try omega)))))⟩
set_option maxHeartbeats 4000000 in
theorem additiveref49_Step_far (T p i s u l : Int) (r : Int) (h : CVal T p i s u l) (hr : r < -1073741824 ∨ 1073741824 < r) (w : World) :
    Calls Try.prog 31 #[.agg #[.int .i64 T, .int .i64 p, .int .i64 i, .int .i64 s, .int .i64 u, .int .i64 l], .int .i64 r] w fun e w' => e = .returned (.tuple #[.agg #[.int .i64 T, .int .i64 p, .int .i64 i, .int .i64 s, .int .i64 u, .int .i64 l], .int .i64 0]) ∧ Ext w w' := by
  have c1 := Lib.hid fun w => ref_CValid T p i s u l true (by rw [decide_eq_true h]) w
  clear h
  rcases hr with hr | hr
  · have d1 := dlt_t hr
    clear hr
    go_enter Try.func31, Try.ntmps31
    go_wp2_with fail
    refine (c1.out _).mono ?_; rintro e w1 ⟨rfl, x_w1⟩
    obtain ⟨k_w1, f_w1⟩ := bcell x_w1
    have s_w1 := x_w1.size; simp at s_w1
    have z0_w1 : w.heap.size < w1.heap.size := by omega
    have z1_w1 : w.heap.size + 1 < w1.heap.size := by omega
    have X_w1 := Lib.hid (show Ext w w1 from Ext.trans (by (repeat' (with_reducible first | refine Ext.drew ?_ | refine Ext.drewN ?_ _ | refine Ext.alloc ?_ _ | exact Ext.refl _ | fail | (refine Ext.setCell ?_ ?_ _; rotate_left; (focus (simp; try omega)))))) x_w1)
    clear x_w1 s_w1
    go_wp2_with fail
    exact bodyPost_ret (v := .tuple #[.agg #[.int .i64 T, .int .i64 p, .int .i64 i, .int .i64 s, .int .i64 u, .int .i64 l], .int .i64 0]) (by simp [results, Try.results31, go_sem, *]) rfl ⟨rfl, by (repeat' (with_reducible first | refine Ext.drew ?_ | refine Ext.drewN ?_ _ | refine Ext.alloc ?_ _ | exact Ext.refl _ | exact X_w1.out | (refine Ext.setCell ?_ ?_ _; rotate_left; (focus (simp; try omega)))))⟩
  · have d1 := dlt_f (show (-1073741824 : Int) ≤ r by omega)
    have d2 := dlt_t hr
    clear hr
    go_enter Try.func31, Try.ntmps31
    go_wp2_with fail
    refine (c1.out _).mono ?_; rintro e w1 ⟨rfl, x_w1⟩
    obtain ⟨k_w1, f_w1⟩ := bcell x_w1
    have s_w1 := x_w1.size; simp at s_w1
    have z0_w1 : w.heap.size < w1.heap.size := by omega
    have z1_w1 : w.heap.size + 1 < w1.heap.size := by omega
    have X_w1 := Lib.hid (show Ext w w1 from Ext.trans (by (repeat' (with_reducible first | refine Ext.drew ?_ | refine Ext.drewN ?_ _ | refine Ext.alloc ?_ _ | exact Ext.refl _ | fail | (refine Ext.setCell ?_ ?_ _; rotate_left; (focus (simp; try omega)))))) x_w1)
    clear x_w1 s_w1
    go_wp2_with fail
    exact bodyPost_ret (v := .tuple #[.agg #[.int .i64 T, .int .i64 p, .int .i64 i, .int .i64 s, .int .i64 u, .int .i64 l], .int .i64 0]) (by simp [results, Try.results31, go_sem, *]) rfl ⟨rfl, by (repeat' (with_reducible first | refine Ext.drew ?_ | refine Ext.drewN ?_ _ | refine Ext.alloc ?_ _ | exact Ext.refl _ | exact X_w1.out | (refine Ext.setCell ?_ ?_ _; rotate_left; (focus (simp; try omega)))))⟩
set_option maxHeartbeats 4000000 in
theorem additiveref49_Step_off (p i s u l r : Int) (h : CVal 0 p i s u l) (r0 : -1073741824 ≤ r) (r1 : r ≤ 1073741824) (w : World) :
    Calls Try.prog 31 #[.agg #[.int .i64 0, .int .i64 p, .int .i64 i, .int .i64 s, .int .i64 u, .int .i64 l], .int .i64 r] w fun e w' => e = .returned (.tuple #[.agg #[.int .i64 0, .int .i64 p, .int .i64 i, .int .i64 s, .int .i64 0, .int .i64 l], .int .i64 0]) ∧ Ext w w' := by
  have c1 := Lib.hid fun w => ref_CValid 0 p i s u l true (by rw [decide_eq_true h]) w
  have d1 := dlt_f r0
  have d2 := dlt_f r1
  clear h r0 r1
  go_enter Try.func31, Try.ntmps31
  go_wp2_with fail
  refine (c1.out _).mono ?_; rintro e w1 ⟨rfl, x_w1⟩
  obtain ⟨k_w1, f_w1⟩ := bcell x_w1
  have s_w1 := x_w1.size; simp at s_w1
  have z0_w1 : w.heap.size < w1.heap.size := by omega
  have z1_w1 : w.heap.size + 1 < w1.heap.size := by omega
  have q0_w1 : w1.cell? ⟨w.heap.size, 0, none⟩ = some (.int .i64 0) := by rw [k_w1 _ _ (by first | (simp; done) | (simp; omega))]; go_simp
  have q1_w1 : w1.cell? ⟨w.heap.size, 1, none⟩ = some (.int .i64 p) := by rw [k_w1 _ _ (by first | (simp; done) | (simp; omega))]; go_simp
  have q2_w1 : w1.cell? ⟨w.heap.size, 2, none⟩ = some (.int .i64 i) := by rw [k_w1 _ _ (by first | (simp; done) | (simp; omega))]; go_simp
  have q3_w1 : w1.cell? ⟨w.heap.size, 3, none⟩ = some (.int .i64 s) := by rw [k_w1 _ _ (by first | (simp; done) | (simp; omega))]; go_simp
  have q4_w1 : w1.cell? ⟨w.heap.size, 4, none⟩ = some (.int .i64 u) := by rw [k_w1 _ _ (by first | (simp; done) | (simp; omega))]; go_simp
  have q5_w1 : w1.cell? ⟨w.heap.size, 5, none⟩ = some (.int .i64 l) := by rw [k_w1 _ _ (by first | (simp; done) | (simp; omega))]; go_simp
  have X_w1 := Lib.hid (show Ext w w1 from Ext.trans (by (repeat' (with_reducible first | refine Ext.drew ?_ | refine Ext.drewN ?_ _ | refine Ext.alloc ?_ _ | exact Ext.refl _ | fail | (refine Ext.setCell ?_ ?_ _; rotate_left; (focus (simp; try omega)))))) x_w1)
  clear x_w1 s_w1
  go_wp2_with fail
  exact bodyPost_ret (v := .tuple #[.agg #[.int .i64 0, .int .i64 p, .int .i64 i, .int .i64 s, .int .i64 0, .int .i64 l], .int .i64 0]) (by simp [results, Try.results31, go_sem, *]) rfl ⟨rfl, by (repeat' (with_reducible first | refine Ext.drew ?_ | refine Ext.drewN ?_ _ | refine Ext.alloc ?_ _ | exact Ext.refl _ | exact X_w1.out | (refine Ext.setCell ?_ ?_ _; rotate_left; (focus (simp; try omega)))))⟩
set_option maxHeartbeats 4000000 in
theorem additiveref49_Step_on (T p i s u l : Int) (r v d : Int) (h : CVal T p i s u l) (r0 : -1073741824 ≤ r) (r1 : r ≤ 1073741824) (hT : T ≠ 0) (hv : v = max 0 (min (u + i * (T - r)) l)) (hd : d = max 0 (min ((p * (T - r) + v) / s) 255)) (w : World) :
    Calls Try.prog 31 #[.agg #[.int .i64 T, .int .i64 p, .int .i64 i, .int .i64 s, .int .i64 u, .int .i64 l], .int .i64 r] w fun e w' => e = .returned (.tuple #[.agg #[.int .i64 T, .int .i64 p, .int .i64 i, .int .i64 s, .int .i64 v, .int .i64 l], .int .i64 d]) ∧ Ext w w' := by
  have c1 := Lib.hid fun w => ref_CValid T p i s u l true (by rw [decide_eq_true h]) w
  have d1 := dlt_f r0
  have d2 := dlt_f r1
  have d3 := beq_f hT
  obtain ⟨g0, g1, g2, g3, g4, g5, g6, g7, g8, g9, g10, g11⟩ := h
  have m1 := mul_in (a := i) (b := T - r) (k := 1048576) (m := 1074141824) (by omega) (by omega) (by omega) (by omega)
  have m2 := mul_in (a := p) (b := T - r) (k := 1048576) (m := 1074141824) (by omega) (by omega) (by omega) (by omega)
  have c2 := Lib.hid fun w => ref_Clamp (u + i * (T - r)) 0 l w
  rw [← hv] at c2
  have v0 : 0 ≤ v := by omega
  have v1 : v ≤ 1099511627776 := by omega
  have c3 := Lib.hid fun w => ref_FloorP (p * (T - r) + v) s (by omega) (by omega) (by omega) (by omega) w
  have c4 := Lib.hid fun w => ref_Clamp ((p * (T - r) + v) / s) 0 255 w
  rw [← hd] at c4
  clear hv hd hT
  go_enter Try.func31, Try.ntmps31
  go_wp2_with fail
  refine (c1.out _).mono ?_; rintro e w1 ⟨rfl, x_w1⟩
  obtain ⟨k_w1, f_w1⟩ := bcell x_w1
  have s_w1 := x_w1.size; simp at s_w1
  have z0_w1 : w.heap.size < w1.heap.size := by omega
  have z1_w1 : w.heap.size + 1 < w1.heap.size := by omega
  have q0_w1 : w1.cell? ⟨w.heap.size, 0, none⟩ = some (.int .i64 T) := by rw [k_w1 _ _ (by first | (simp; done) | (simp; omega))]; go_simp
  have q1_w1 : w1.cell? ⟨w.heap.size, 1, none⟩ = some (.int .i64 p) := by rw [k_w1 _ _ (by first | (simp; done) | (simp; omega))]; go_simp
  have q2_w1 : w1.cell? ⟨w.heap.size, 2, none⟩ = some (.int .i64 i) := by rw [k_w1 _ _ (by first | (simp; done) | (simp; omega))]; go_simp
  have q3_w1 : w1.cell? ⟨w.heap.size, 3, none⟩ = some (.int .i64 s) := by rw [k_w1 _ _ (by first | (simp; done) | (simp; omega))]; go_simp
  have q4_w1 : w1.cell? ⟨w.heap.size, 4, none⟩ = some (.int .i64 u) := by rw [k_w1 _ _ (by first | (simp; done) | (simp; omega))]; go_simp
  have q5_w1 : w1.cell? ⟨w.heap.size, 5, none⟩ = some (.int .i64 l) := by rw [k_w1 _ _ (by first | (simp; done) | (simp; omega))]; go_simp
  have X_w1 := Lib.hid (show Ext w w1 from Ext.trans (by (repeat' (with_reducible first | refine Ext.drew ?_ | refine Ext.drewN ?_ _ | refine Ext.alloc ?_ _ | exact Ext.refl _ | fail | (refine Ext.setCell ?_ ?_ _; rotate_left; (focus (simp; try omega)))))) x_w1)
  clear x_w1 s_w1
  go_wp2_with fail
  refine (c2.out _).mono ?_; rintro e w' ⟨rfl, rfl⟩
  go_wp2_with fail
  refine (c3.out _).mono ?_; rintro e w' ⟨rfl, rfl⟩
  go_wp2_with fail
  refine wp_region_held_drew (S := fun w' => w'.cell? ⟨w.heap.size, 0, none⟩ = some (.int .i64 T) ∧ w'.cell? ⟨w.heap.size, 1, none⟩ = some (.int .i64 p) ∧ w'.cell? ⟨w.heap.size, 2, none⟩ = some (.int .i64 i) ∧ w'.cell? ⟨w.heap.size, 3, none⟩ = some (.int .i64 s) ∧ w'.cell? ⟨w.heap.size, 4, none⟩ = some (.int .i64 v) ∧ w'.cell? ⟨w.heap.size, 5, none⟩ = some (.int .i64 l)) (by kernel_rfl) (by (try dsimp only); first | (with_reducible assumption) | (refine ⟨?_, ?_, ?_, ?_, ?_, ?_⟩ <;> first | (with_reducible assumption) | (go_simp; done)) | go_keep) (fun hHeld => ?_)
  refine htake (i := 0) (v := ?_) (some 54) rfl rfl (by kernel_rfl) (by kernel_rfl) (by kernel_rfl) (fun _ _ _ h => h) (Or.inl ⟨by rfl, ?_⟩) (by assumption) ?_; rotate_left; (focus (intro w hSw; (try dsimp only at hSw); go_simp; (try with_reducible rfl))); (try simp only [Act.put]); (try simp only [List.setIfInBounds_toArray]); (try simp only [List.set_cons_succ]); (try simp only [List.set_cons_zero])
  refine htake (i := 1) (v := ?_) (some 55) rfl rfl (by kernel_rfl) (by kernel_rfl) (by kernel_rfl) (fun _ _ _ h => h) (Or.inl ⟨by rfl, ?_⟩) (by assumption) ?_; rotate_left; (focus (intro w hSw; (try dsimp only at hSw); go_simp; (try with_reducible rfl))); (try simp only [Act.put]); (try simp only [List.setIfInBounds_toArray]); (try simp only [List.set_cons_succ]); (try simp only [List.set_cons_zero])
  refine wpAnyH_ready (rs := [2]) (by kernel_rfl) (by simp) ?_
  refine AllReadyH.cons rfl (fun K hK => ?_) AllReadyH.nil
  go_simp
  refine (c4.out _).mono ?_; rintro e w' ⟨rfl, rfl⟩
  (try go_wp2_with fail)
  refine hK.out _ _ ?_ (fun hHeld => ?_)
  · (try dsimp only); first | (with_reducible assumption) | (refine ⟨?_, ?_, ?_, ?_, ?_, ?_⟩ <;> first | (with_reducible assumption) | (go_simp; done)) | go_keep
  clear hK K
  (try simp only [Act.put]); (try simp only [List.setIfInBounds_toArray]); (try simp only [List.set_cons_succ]); (try simp only [List.set_cons_zero])
  refine wpAnyH_ready (rs := [3]) (by kernel_rfl) (by simp) ?_
  refine AllReadyH.cons rfl (fun K hK => ?_) AllReadyH.nil
  go_simp
  refine hK.out _ _ ?_ (fun hHeld => ?_)
  · (try dsimp only); first | (with_reducible assumption) | (refine ⟨?_, ?_, ?_, ?_, ?_, ?_⟩ <;> first | (with_reducible assumption) | (go_simp; done)) | go_keep
  clear hK K
  (try simp only [Act.put]); (try simp only [List.setIfInBounds_toArray]); (try simp only [List.set_cons_succ]); (try simp only [List.set_cons_zero])
  refine htake (i := 4) (v := ?_) (some 5) rfl rfl (by kernel_rfl) (by kernel_rfl) (by kernel_rfl) (fun _ _ _ h => h) (Or.inl ⟨by rfl, ?_⟩) (by assumption) ?_; rotate_left; (focus (intro w hSw; (try dsimp only at hSw); go_simp; (try with_reducible rfl))); (try simp only [Act.put]); (try simp only [List.setIfInBounds_toArray]); (try simp only [List.set_cons_succ]); (try simp only [List.set_cons_zero])
  refine wpAnyH_done (by kernel_rfl) ?_ _
  go_wp2_with fail
  exact bodyPost_ret (v := .tuple #[.agg #[.int .i64 T, .int .i64 p, .int .i64 i, .int .i64 s, .int .i64 v, .int .i64 l], .int .i64 d]) (by simp [results, Try.results31, go_sem, *]) rfl ⟨rfl, by (repeat' (with_reducible first | refine Ext.drew ?_ | refine Ext.drewN ?_ _ | refine Ext.alloc ?_ _ | exact Ext.refl _ | exact X_w1.out | (refine Ext.setCell ?_ ?_ _; rotate_left; (focus (simp; try omega)))))⟩
theorem additiveref49_Step (T p i s u l r v d : Int) (h : StepIs T p i s u l r v d) (w : World) :
    Calls Try.prog 31 #[.agg #[.int .i64 T, .int .i64 p, .int .i64 i, .int .i64 s, .int .i64 u, .int .i64 l], .int .i64 r] w fun e w' => e = .returned (.tuple #[.agg #[.int .i64 T, .int .i64 p, .int .i64 i, .int .i64 s, .int .i64 v, .int .i64 l], .int .i64 d]) ∧ Ext w w' := by
  rcases h with ⟨h, rfl, rfl⟩ | ⟨h, r0, r1, rfl, rfl, rfl⟩ | ⟨h, r0, r1, hT, hv, hd⟩
  · by_cases hc : CVal T p i s v l
    · exact additiveref49_Step_far T p i s v l r hc (by have hh : ¬ (-1073741824 ≤ r ∧ r ≤ 1073741824) := fun e => h ⟨hc, e⟩; omega) w
    · exact additiveref49_Step_no T p i s v l r hc w
  · exact additiveref49_Step_off p i s u l r h r0 r1 w
  · exact additiveref49_Step_on T p i s u l r v d h r0 r1 hT hv hd w
set_option maxHeartbeats 4000000 in
theorem additiveref49_Aim_no (T p i s u l t : Int) (h : ¬ (CVal T p i s u l ∧ 0 ≤ t ∧ t ≤ 400000)) (w : World) :
    Calls Try.prog 26 #[.agg #[.int .i64 T, .int .i64 p, .int .i64 i, .int .i64 s, .int .i64 u, .int .i64 l], .int .i64 t] w fun e w' => e = .returned (.tuple #[.agg #[.int .i64 0, .int .i64 0, .int .i64 0, .int .i64 0, .int .i64 0, .int .i64 0], .int .i64 1]) ∧ Ext w w' := by
  by_cases hc : CVal T p i s u l
  · have c1 := Lib.hid fun w => ref_CValid T p i s u l true (by rw [decide_eq_true hc]) w
    have hh : ¬ (0 ≤ t ∧ t ≤ 400000) := fun e => h ⟨hc, e⟩
    have ht : t < 0 ∨ 400000 < t := by omega
    clear h hc hh
    rcases ht with hr | hr
    · have d1 := dlt_t hr
      clear hr
      go_enter Try.func26, Try.ntmps26
      go_wp2_with fail
      refine (c1.out _).mono ?_; rintro e w1 ⟨rfl, x_w1⟩
      obtain ⟨k_w1, f_w1⟩ := bcell x_w1
      have s_w1 := x_w1.size; simp at s_w1
      have z0_w1 : w.heap.size < w1.heap.size := by omega
      have z1_w1 : w.heap.size + 1 < w1.heap.size := by omega
      have X_w1 := Lib.hid (show Ext w w1 from Ext.trans (by (repeat' (with_reducible first | refine Ext.drew ?_ | refine Ext.drewN ?_ _ | refine Ext.alloc ?_ _ | exact Ext.refl _ | fail | (refine Ext.setCell ?_ ?_ _; rotate_left; (focus (simp; try omega)))))) x_w1)
      clear x_w1 s_w1
      go_wp2_with fail
      exact bodyPost_ret (v := .tuple #[.agg #[.int .i64 0, .int .i64 0, .int .i64 0, .int .i64 0, .int .i64 0, .int .i64 0], .int .i64 1]) (by simp [results, Try.results26, go_sem, *]) rfl ⟨rfl, by (repeat' (with_reducible first | refine Ext.drew ?_ | refine Ext.drewN ?_ _ | refine Ext.alloc ?_ _ | exact Ext.refl _ | exact X_w1.out | (refine Ext.setCell ?_ ?_ _; rotate_left; (focus (simp; try omega)))))⟩
    · have d1 := dlt_f (show (0 : Int) ≤ t by omega)
      have d2 := dlt_t hr
      clear hr
      go_enter Try.func26, Try.ntmps26
      go_wp2_with fail
      refine (c1.out _).mono ?_; rintro e w1 ⟨rfl, x_w1⟩
      obtain ⟨k_w1, f_w1⟩ := bcell x_w1
      have s_w1 := x_w1.size; simp at s_w1
      have z0_w1 : w.heap.size < w1.heap.size := by omega
      have z1_w1 : w.heap.size + 1 < w1.heap.size := by omega
      have X_w1 := Lib.hid (show Ext w w1 from Ext.trans (by (repeat' (with_reducible first | refine Ext.drew ?_ | refine Ext.drewN ?_ _ | refine Ext.alloc ?_ _ | exact Ext.refl _ | fail | (refine Ext.setCell ?_ ?_ _; rotate_left; (focus (simp; try omega)))))) x_w1)
      clear x_w1 s_w1
      go_wp2_with fail
      exact bodyPost_ret (v := .tuple #[.agg #[.int .i64 0, .int .i64 0, .int .i64 0, .int .i64 0, .int .i64 0, .int .i64 0], .int .i64 1]) (by simp [results, Try.results26, go_sem, *]) rfl ⟨rfl, by (repeat' (with_reducible first | refine Ext.drew ?_ | refine Ext.drewN ?_ _ | refine Ext.alloc ?_ _ | exact Ext.refl _ | exact X_w1.out | (refine Ext.setCell ?_ ?_ _; rotate_left; (focus (simp; try omega)))))⟩
  · have c1 := Lib.hid fun w => ref_CValid T p i s u l false (by rw [decide_eq_false hc]) w
    clear h hc
    go_enter Try.func26, Try.ntmps26
    go_wp2_with fail
    refine (c1.out _).mono ?_; rintro e w1 ⟨rfl, x_w1⟩
    obtain ⟨k_w1, f_w1⟩ := bcell x_w1
    have s_w1 := x_w1.size; simp at s_w1
    have z0_w1 : w.heap.size < w1.heap.size := by omega
    have z1_w1 : w.heap.size + 1 < w1.heap.size := by omega
    have X_w1 := Lib.hid (show Ext w w1 from Ext.trans (by (repeat' (with_reducible first | refine Ext.drew ?_ | refine Ext.drewN ?_ _ | refine Ext.alloc ?_ _ | exact Ext.refl _ | fail | (refine Ext.setCell ?_ ?_ _; rotate_left; (focus (simp; try omega)))))) x_w1)
    clear x_w1 s_w1
    go_wp2_with fail
    exact bodyPost_ret (v := .tuple #[.agg #[.int .i64 0, .int .i64 0, .int .i64 0, .int .i64 0, .int .i64 0, .int .i64 0], .int .i64 1]) (by simp [results, Try.results26, go_sem, *]) rfl ⟨rfl, by (repeat' (with_reducible first | refine Ext.drew ?_ | refine Ext.drewN ?_ _ | refine Ext.alloc ?_ _ | exact Ext.refl _ | exact X_w1.out | (refine Ext.setCell ?_ ?_ _; rotate_left; (focus (simp; try omega)))))⟩
set_option maxHeartbeats 4000000 in
theorem additiveref49_Aim_ok (T p i s u l t : Int) (h : CVal T p i s u l) (t0 : 0 ≤ t) (t1 : t ≤ 400000) (w : World) :
    Calls Try.prog 26 #[.agg #[.int .i64 T, .int .i64 p, .int .i64 i, .int .i64 s, .int .i64 u, .int .i64 l], .int .i64 t] w fun e w' => e = .returned (.tuple #[.agg #[.int .i64 t, .int .i64 p, .int .i64 i, .int .i64 s, .int .i64 0, .int .i64 l], .int .i64 0]) ∧ Ext w w' := by
  have c1 := Lib.hid fun w => ref_CValid T p i s u l true (by rw [decide_eq_true h]) w
  have d1 := dlt_f t0
  have d2 := dlt_f t1
  clear h t0 t1
  go_enter Try.func26, Try.ntmps26
  go_wp2_with fail
  refine (c1.out _).mono ?_; rintro e w1 ⟨rfl, x_w1⟩
  obtain ⟨k_w1, f_w1⟩ := bcell x_w1
  have s_w1 := x_w1.size; simp at s_w1
  have z0_w1 : w.heap.size < w1.heap.size := by omega
  have z1_w1 : w.heap.size + 1 < w1.heap.size := by omega
  have q0_w1 : w1.cell? ⟨w.heap.size, 0, none⟩ = some (.int .i64 T) := by rw [k_w1 _ _ (by first | (simp; done) | (simp; omega))]; go_simp
  have q1_w1 : w1.cell? ⟨w.heap.size, 1, none⟩ = some (.int .i64 p) := by rw [k_w1 _ _ (by first | (simp; done) | (simp; omega))]; go_simp
  have q2_w1 : w1.cell? ⟨w.heap.size, 2, none⟩ = some (.int .i64 i) := by rw [k_w1 _ _ (by first | (simp; done) | (simp; omega))]; go_simp
  have q3_w1 : w1.cell? ⟨w.heap.size, 3, none⟩ = some (.int .i64 s) := by rw [k_w1 _ _ (by first | (simp; done) | (simp; omega))]; go_simp
  have q4_w1 : w1.cell? ⟨w.heap.size, 4, none⟩ = some (.int .i64 u) := by rw [k_w1 _ _ (by first | (simp; done) | (simp; omega))]; go_simp
  have q5_w1 : w1.cell? ⟨w.heap.size, 5, none⟩ = some (.int .i64 l) := by rw [k_w1 _ _ (by first | (simp; done) | (simp; omega))]; go_simp
  have X_w1 := Lib.hid (show Ext w w1 from Ext.trans (by (repeat' (with_reducible first | refine Ext.drew ?_ | refine Ext.drewN ?_ _ | refine Ext.alloc ?_ _ | exact Ext.refl _ | fail | (refine Ext.setCell ?_ ?_ _; rotate_left; (focus (simp; try omega)))))) x_w1)
  clear x_w1 s_w1
  go_wp2_with fail
  exact bodyPost_ret (v := .tuple #[.agg #[.int .i64 t, .int .i64 p, .int .i64 i, .int .i64 s, .int .i64 0, .int .i64 l], .int .i64 0]) (by simp [results, Try.results26, go_sem, *]) rfl ⟨rfl, by (repeat' (with_reducible first | refine Ext.drew ?_ | refine Ext.drewN ?_ _ | refine Ext.alloc ?_ _ | exact Ext.refl _ | exact X_w1.out | (refine Ext.setCell ?_ ?_ _; rotate_left; (focus (simp; try omega)))))⟩
end Go.Proofs.Ytnljefglidhnjaa

