/-
  The walks of the laws ThermalChecks, ThermalSteps, ThermalMonotone, ThermalRests: each answers true.
-/
import Derived.Test.YthgmacoljkljfaaThC
namespace Go.Proofs.Ythgmacoljkljfaa
open Go.RowKit
theorem htakeW {P : Program} {ops : Array Oper} {Q : Exit → Act → World → Prop} {md : Region.Mode} {S : World → Prop} {i : Nat} {oi : Oper} {v : Value} {fuel : Nat} {listed : Array Bool} {a : Act} {w : World} (d : Option Tmp) (hi : ops[i]? = some oi) (hd : oi.dst = d)
    (hs : Region.noSelect ops = true) (hf : Region.free md ops listed i = true) (hr : (Region.ready md ops listed).contains i = true)
    (hQ : ∀ c a w, Q (.panic c) (a.put d v) w → Q (.panic c) a w) (hy : YieldsIf P ops S oi v a) (hS : S w)
    (h : wpAnyH P md ops Q S fuel (listed.setIfInBounds i true) (a.put d v) w) : wpAnyH P md ops Q S (fuel + 1) listed a w := by
  subst hd
  exact wpAnyH_take hi hs hf hr hQ hy hS h

theorem law_plain (w : World) : Calls Try.prog 46 #[] w fun e w' => e = .returned (.agg #[.int .i64 100, .int .i64 2, .int .i64 10, .int .i64 20000]) ∧ Ext w w' := by
  go_enter Try.func46, Try.ntmps46
  go_wp2_with fail
  exact bodyPost_ret (v := .agg #[.int .i64 100, .int .i64 2, .int .i64 10, .int .i64 20000]) (by simp [results, Try.results46, go_sem, *]) rfl ⟨rfl, by (repeat' (with_reducible first | refine Ext.drew ?_ | refine Ext.drewN ?_ _ | refine Ext.alloc ?_ _ | exact Ext.refl _ | fail | (refine Ext.setCell ?_ ?_ _; rotate_left; (focus ((try simp); try omega)))))⟩
set_option maxHeartbeats 4000000 in
theorem law_awake (w : World) : Calls Try.prog 32 #[] w fun e w' => e = .returned (.bool true) ∧ Ext w w' := by
  have p0 := Lib.hid law_plain
  have c1 := Lib.hid fun w => thermal_HValid 100 2 10 20000 true (by decide) w
  have c2 := Lib.hid fun w => thermal_HStep 100 2 10 20000 20000 255 22550 (.inl ⟨by decide, by decide +kernel⟩) w
  have c3 := Lib.hid fun w => thermal_Top 100 2 10 20000 32750 (.inl ⟨by decide, by decide +kernel⟩) w
  have c4 := Lib.hid fun w => thermal_HStep 100 2 10 20000 22550 0 22040 (.inl ⟨by decide, by decide +kernel⟩) w
  have c5 := Lib.hid fun w => thermal_HValid 0 0 0 0 false (by decide) w
  have cr := Lib.hid fun v w h => thermal_Run 100 2 10 20000 20000 v [255, 0] (by simp) w h
  go_enter Try.func32, Try.ntmps32
  go_wp2_with fail
  refine (p0.out _).mono ?_; rintro e w1 ⟨rfl, x_w1⟩
  obtain ⟨k_w1, f_w1⟩ := bcell x_w1
  have X_w1 := Lib.hid (show Ext w w1 from Ext.trans (by (repeat' (with_reducible first | refine Ext.drew ?_ | refine Ext.drewN ?_ _ | refine Ext.alloc ?_ _ | exact Ext.refl _ | fail | (refine Ext.setCell ?_ ?_ _; rotate_left; (focus ((try simp); try omega)))))) x_w1)
  clear x_w1
  go_wp2_with fail
  refine (cr.out _ _ ?isx).mono ?_
  case isx =>
    refine Or.inr ⟨_, 0, 2, rfl, by simp, by simp, by decide, fun i x hi => ?_⟩
    rcases i with _ | _ | i
    · simp at hi; subst hi; go_simp
    · simp at hi; subst hi; go_simp
    · simp at hi
  rintro e w2 ⟨v, rfl, hv, x2⟩
  rw [show hout 100 2 10 20000 20000 [255, 0] ([255, 0] : List Int).length = [22550, 22040] by decide +kernel] at hv
  have X_w2 := Lib.hid (show Ext w w2 from (X_w1.out.alloc _).trans x2)
  clear x2 k_w1 f_w1
  rcases hv with ⟨h, _⟩ | ⟨b, o, c, rfl, _, hc2, _, hv⟩
  · cases h
  have r0 := hv 0 22550 rfl
  have r1 := hv 1 22040 rfl
  have z := cell_lt r0
  simp only [Nat.add_zero] at z r0
  simp only [List.length_cons, List.length_nil] at hc2
  clear hv
  simp only [List.length_cons, List.length_nil]
  go_wp2_with fail
  refine (p0.out _).mono ?_; rintro e v1 ⟨rfl, x_v1⟩
  obtain ⟨k_v1, f_v1⟩ := bcell x_v1
  have s_v1 := x_v1.size; (try simp at s_v1)
  have z0_v1 : b < v1.heap.size := by omega
  have X_v1 := Lib.hid (show Ext w v1 from Ext.trans (by (repeat' (with_reducible first | refine Ext.drew ?_ | refine Ext.drewN ?_ _ | refine Ext.alloc ?_ _ | exact Ext.refl _ | exact X_w2.out | exact X_w1.out | (refine Ext.setCell ?_ ?_ _; rotate_left; (focus ((try simp); try omega)))))) x_v1)
  clear x_v1 s_v1
  go_wp2_with fail
  refine (c1.out _).mono ?_; rintro e v2 ⟨rfl, x_v2⟩
  obtain ⟨k_v2, f_v2⟩ := bcell x_v2
  have s_v2 := x_v2.size; (try simp at s_v2)
  have z0_v2 : b < v2.heap.size := by omega
  have X_v2 := Lib.hid (show Ext w v2 from Ext.trans (by (repeat' (with_reducible first | refine Ext.drew ?_ | refine Ext.drewN ?_ _ | refine Ext.alloc ?_ _ | exact Ext.refl _ | exact X_v1.out | exact X_w2.out | exact X_w1.out | (refine Ext.setCell ?_ ?_ _; rotate_left; (focus ((try simp); try omega)))))) x_v2)
  clear x_v2 s_v2
  go_wp2_with fail
  refine (p0.out _).mono ?_; rintro e v3 ⟨rfl, x_v3⟩
  obtain ⟨k_v3, f_v3⟩ := bcell x_v3
  have s_v3 := x_v3.size; (try simp at s_v3)
  have z0_v3 : b < v3.heap.size := by omega
  have X_v3 := Lib.hid (show Ext w v3 from Ext.trans (by (repeat' (with_reducible first | refine Ext.drew ?_ | refine Ext.drewN ?_ _ | refine Ext.alloc ?_ _ | exact Ext.refl _ | exact X_v2.out | exact X_v1.out | exact X_w2.out | exact X_w1.out | (refine Ext.setCell ?_ ?_ _; rotate_left; (focus ((try simp); try omega)))))) x_v3)
  clear x_v3 s_v3
  go_wp2_with fail
  refine (c2.out _).mono ?_; rintro e v4 ⟨rfl, x_v4⟩
  obtain ⟨k_v4, f_v4⟩ := bcell x_v4
  have s_v4 := x_v4.size; (try simp at s_v4)
  have z0_v4 : b < v4.heap.size := by omega
  have X_v4 := Lib.hid (show Ext w v4 from Ext.trans (by (repeat' (with_reducible first | refine Ext.drew ?_ | refine Ext.drewN ?_ _ | refine Ext.alloc ?_ _ | exact Ext.refl _ | exact X_v3.out | exact X_v2.out | exact X_v1.out | exact X_w2.out | exact X_w1.out | (refine Ext.setCell ?_ ?_ _; rotate_left; (focus ((try simp); try omega)))))) x_v4)
  clear x_v4 s_v4
  go_wp2_with fail
  refine (p0.out _).mono ?_; rintro e v5 ⟨rfl, x_v5⟩
  obtain ⟨k_v5, f_v5⟩ := bcell x_v5
  have s_v5 := x_v5.size; (try simp at s_v5)
  have z0_v5 : b < v5.heap.size := by omega
  have X_v5 := Lib.hid (show Ext w v5 from Ext.trans (by (repeat' (with_reducible first | refine Ext.drew ?_ | refine Ext.drewN ?_ _ | refine Ext.alloc ?_ _ | exact Ext.refl _ | exact X_v4.out | exact X_v3.out | exact X_v2.out | exact X_v1.out | exact X_w2.out | exact X_w1.out | (refine Ext.setCell ?_ ?_ _; rotate_left; (focus ((try simp); try omega)))))) x_v5)
  clear x_v5 s_v5
  go_wp2_with fail
  refine (c3.out _).mono ?_; rintro e v6 ⟨rfl, x_v6⟩
  obtain ⟨k_v6, f_v6⟩ := bcell x_v6
  have s_v6 := x_v6.size; (try simp at s_v6)
  have z0_v6 : b < v6.heap.size := by omega
  have X_v6 := Lib.hid (show Ext w v6 from Ext.trans (by (repeat' (with_reducible first | refine Ext.drew ?_ | refine Ext.drewN ?_ _ | refine Ext.alloc ?_ _ | exact Ext.refl _ | exact X_v5.out | exact X_v4.out | exact X_v3.out | exact X_v2.out | exact X_v1.out | exact X_w2.out | exact X_w1.out | (refine Ext.setCell ?_ ?_ _; rotate_left; (focus ((try simp); try omega)))))) x_v6)
  clear x_v6 s_v6
  go_wp2_with fail
  refine (p0.out _).mono ?_; rintro e v7 ⟨rfl, x_v7⟩
  obtain ⟨k_v7, f_v7⟩ := bcell x_v7
  have s_v7 := x_v7.size; (try simp at s_v7)
  have z0_v7 : b < v7.heap.size := by omega
  have X_v7 := Lib.hid (show Ext w v7 from Ext.trans (by (repeat' (with_reducible first | refine Ext.drew ?_ | refine Ext.drewN ?_ _ | refine Ext.alloc ?_ _ | exact Ext.refl _ | exact X_v6.out | exact X_v5.out | exact X_v4.out | exact X_v3.out | exact X_v2.out | exact X_v1.out | exact X_w2.out | exact X_w1.out | (refine Ext.setCell ?_ ?_ _; rotate_left; (focus ((try simp); try omega)))))) x_v7)
  clear x_v7 s_v7
  go_wp2_with fail
  refine (c4.out _).mono ?_; rintro e v8 ⟨rfl, x_v8⟩
  obtain ⟨k_v8, f_v8⟩ := bcell x_v8
  have s_v8 := x_v8.size; (try simp at s_v8)
  have z0_v8 : b < v8.heap.size := by omega
  have X_v8 := Lib.hid (show Ext w v8 from Ext.trans (by (repeat' (with_reducible first | refine Ext.drew ?_ | refine Ext.drewN ?_ _ | refine Ext.alloc ?_ _ | exact Ext.refl _ | exact X_v7.out | exact X_v6.out | exact X_v5.out | exact X_v4.out | exact X_v3.out | exact X_v2.out | exact X_v1.out | exact X_w2.out | exact X_w1.out | (refine Ext.setCell ?_ ?_ _; rotate_left; (focus ((try simp); try omega)))))) x_v8)
  clear x_v8 s_v8
  go_wp2_with fail
  refine (c5.out _).mono ?_; rintro e v9 ⟨rfl, x_v9⟩
  obtain ⟨k_v9, f_v9⟩ := bcell x_v9
  have X_v9 := Lib.hid (show Ext w v9 from Ext.trans (by (repeat' (with_reducible first | refine Ext.drew ?_ | refine Ext.drewN ?_ _ | refine Ext.alloc ?_ _ | exact Ext.refl _ | exact X_v8.out | exact X_v7.out | exact X_v6.out | exact X_v5.out | exact X_v4.out | exact X_v3.out | exact X_v2.out | exact X_v1.out | exact X_w2.out | exact X_w1.out | (refine Ext.setCell ?_ ?_ _; rotate_left; (focus ((try simp); try omega)))))) x_v9)
  clear x_v9
  go_wp2_with fail
  go_ret
  exact ⟨rfl, by (repeat' (with_reducible first | refine Ext.drew ?_ | refine Ext.drewN ?_ _ | refine Ext.alloc ?_ _ | exact Ext.refl _ | exact X_v9.out | exact X_v8.out | exact X_v7.out | exact X_v6.out | exact X_v5.out | exact X_v4.out | exact X_v3.out | exact X_v2.out | exact X_v1.out | exact X_w2.out | exact X_w1.out | (refine Ext.setCell ?_ ?_ _; rotate_left; (focus ((try simp); try omega)))))⟩
set_option maxHeartbeats 4000000 in
theorem law_ThermalChecks (p l m a : Int) (w : World) : Calls Try.prog 9 #[.agg #[.int .i64 p, .int .i64 l, .int .i64 m, .int .i64 a]] w fun e w' => e = .returned (.bool true) ∧ Ext w w' := by
  have ka := Lib.hid law_awake
  obtain ⟨r, h⟩ := topIs_ex p l m a
  obtain ⟨b, hb⟩ : ∃ b, b = decide (HVal p l m a) := ⟨_, rfl⟩
  have c1 := Lib.hid fun w => thermal_HValid p l m a b hb w
  have c2 := Lib.hid fun w => additiveref48_HValid p l m a b hb w
  have c3 := Lib.hid fun w => thermal_Top p l m a r h w
  have c4 := Lib.hid fun w => additiveref48_Top p l m a r h w
  have e1 := beq_t (rfl : r = r)
  have e2 : (b == b) = true := by simp
  clear h hb
  go_enter Try.func9, Try.ntmps9
  go_wp2_with fail
  refine wp_world fun W h_W => ?_
  have q0_W : W.cell? ⟨w.heap.size, 0, none⟩ = some (.int .i64 p) := by rw [h_W]; go_simp
  have u0_W : ∀ w', Ext W w' → w'.cell? ⟨w.heap.size, 0, none⟩ = some (.int .i64 p) := fun _ h => h.keep q0_W
  have q1_W : W.cell? ⟨w.heap.size, 1, none⟩ = some (.int .i64 l) := by rw [h_W]; go_simp
  have u1_W : ∀ w', Ext W w' → w'.cell? ⟨w.heap.size, 1, none⟩ = some (.int .i64 l) := fun _ h => h.keep q1_W
  have q2_W : W.cell? ⟨w.heap.size, 2, none⟩ = some (.int .i64 m) := by rw [h_W]; go_simp
  have u2_W : ∀ w', Ext W w' → w'.cell? ⟨w.heap.size, 2, none⟩ = some (.int .i64 m) := fun _ h => h.keep q2_W
  have q3_W : W.cell? ⟨w.heap.size, 3, none⟩ = some (.int .i64 a) := by rw [h_W]; go_simp
  have u3_W : ∀ w', Ext W w' → w'.cell? ⟨w.heap.size, 3, none⟩ = some (.int .i64 a) := fun _ h => h.keep q3_W
  have X_W := Lib.hid (show Ext w W by rw [h_W]; exact (by (repeat' (with_reducible first | refine Ext.drew ?_ | refine Ext.drewN ?_ _ | refine Ext.alloc ?_ _ | exact Ext.refl _ | fail | (refine Ext.setCell ?_ ?_ _; rotate_left; (focus ((try simp); try omega)))))))
  clear h_W
  refine wp_region_held_drew (S := fun w' => Ext W w') (by kernel_rfl) (by (try dsimp only); (repeat' (with_reducible first | assumption | refine Ext.drew ?_ | refine Ext.drewN ?_ _ | exact Ext.refl _))) (fun hHeld => ?_)
  refine htakeW (i := 0) (v := ?_) (some 3) rfl rfl (by kernel_rfl) (by kernel_rfl) (by kernel_rfl) (fun _ _ _ h => h) (Or.inl ⟨by rfl, ?_⟩) (by assumption) ?_; rotate_left; (focus (intro w hSw; (try dsimp only at hSw); go_simp; (try with_reducible rfl))); (try simp only [Act.put]); (try simp only [List.setIfInBounds_toArray]); (try simp only [List.set_cons_succ]); (try simp only [List.set_cons_zero])
  refine htakeW (i := 2) (v := ?_) (some 5) rfl rfl (by kernel_rfl) (by kernel_rfl) (by kernel_rfl) (fun _ _ _ h => h) (Or.inl ⟨by rfl, ?_⟩) (by assumption) ?_; rotate_left; (focus (intro w hSw; (try dsimp only at hSw); go_simp; (try with_reducible rfl))); (try simp only [Act.put]); (try simp only [List.setIfInBounds_toArray]); (try simp only [List.set_cons_succ]); (try simp only [List.set_cons_zero])
  refine wpAnyH_ready (rs := [1]) (by kernel_rfl) (by simp) ?_
  refine AllReadyH.cons rfl (fun K hK => ?_) AllReadyH.nil
  go_simp
  refine (c1.out _).mono ?_; rintro e w1 ⟨rfl, y_w1⟩; have x_w1 := Ext.trans (show Ext W _ by assumption) y_w1; clear y_w1
  (try go_wp2_with fail)
  refine hK.out _ _ ?_ (fun hHeld => ?_)
  · (try dsimp only); (repeat' (with_reducible first | assumption | refine Ext.drew ?_ | refine Ext.drewN ?_ _ | exact Ext.refl _))
  clear hK K
  (try simp only [Act.put]); (try simp only [List.setIfInBounds_toArray]); (try simp only [List.set_cons_succ]); (try simp only [List.set_cons_zero])
  refine wpAnyH_ready (rs := [3]) (by kernel_rfl) (by simp) ?_
  refine AllReadyH.cons rfl (fun K hK => ?_) AllReadyH.nil
  go_simp
  refine (c2.out _).mono ?_; rintro e w2 ⟨rfl, y_w2⟩; have x_w2 := Ext.trans (show Ext W _ by assumption) y_w2; clear y_w2
  (try go_wp2_with fail)
  refine hK.out _ _ ?_ (fun hHeld => ?_)
  · (try dsimp only); (repeat' (with_reducible first | assumption | refine Ext.drew ?_ | refine Ext.drewN ?_ _ | exact Ext.refl _))
  clear hK K
  (try simp only [Act.put]); (try simp only [List.setIfInBounds_toArray]); (try simp only [List.set_cons_succ]); (try simp only [List.set_cons_zero])
  refine htakeW (i := 4) (v := ?_) (some 7) rfl rfl (by kernel_rfl) (by kernel_rfl) (by kernel_rfl) (fun _ _ _ h => h) (Or.inl ⟨by rfl, ?_⟩) (by assumption) ?_; rotate_left; (focus (intro w hSw; (try dsimp only at hSw); go_simp; (try with_reducible rfl))); (try simp only [Act.put]); (try simp only [List.setIfInBounds_toArray]); (try simp only [List.set_cons_succ]); (try simp only [List.set_cons_zero])
  refine htakeW (i := 5) (v := ?_) (some 8) rfl rfl (by kernel_rfl) (by kernel_rfl) (by kernel_rfl) (fun _ _ _ h => h) (Or.inl ⟨by rfl, ?_⟩) (by assumption) ?_; rotate_left; (focus (intro w hSw; (try dsimp only at hSw); go_simp; (try with_reducible rfl))); (try simp only [Act.put]); (try simp only [List.setIfInBounds_toArray]); (try simp only [List.set_cons_succ]); (try simp only [List.set_cons_zero])
  refine htakeW (i := 6) (v := ?_) (some 9) rfl rfl (by kernel_rfl) (by kernel_rfl) (by kernel_rfl) (fun _ _ _ h => h) (Or.inl ⟨by rfl, ?_⟩) (by assumption) ?_; rotate_left; (focus (intro w hSw; (try dsimp only at hSw); go_simp; (try with_reducible rfl))); (try simp only [Act.put]); (try simp only [List.setIfInBounds_toArray]); (try simp only [List.set_cons_succ]); (try simp only [List.set_cons_zero])
  refine htakeW (i := 8) (v := ?_) (some 11) rfl rfl (by kernel_rfl) (by kernel_rfl) (by kernel_rfl) (fun _ _ _ h => h) (Or.inl ⟨by rfl, ?_⟩) (by assumption) ?_; rotate_left; (focus (intro w hSw; (try dsimp only at hSw); go_simp; (try with_reducible rfl))); (try simp only [Act.put]); (try simp only [List.setIfInBounds_toArray]); (try simp only [List.set_cons_succ]); (try simp only [List.set_cons_zero])
  refine wpAnyH_ready (rs := [7]) (by kernel_rfl) (by simp) ?_
  refine AllReadyH.cons rfl (fun K hK => ?_) AllReadyH.nil
  go_simp
  refine (c3.out _).mono ?_; rintro e w3 ⟨rfl, y_w3⟩; have x_w3 := Ext.trans (show Ext W _ by assumption) y_w3; clear y_w3
  (try go_wp2_with fail)
  refine hK.out _ _ ?_ (fun hHeld => ?_)
  · (try dsimp only); (repeat' (with_reducible first | assumption | refine Ext.drew ?_ | refine Ext.drewN ?_ _ | exact Ext.refl _))
  clear hK K
  (try simp only [Act.put]); (try simp only [List.setIfInBounds_toArray]); (try simp only [List.set_cons_succ]); (try simp only [List.set_cons_zero])
  refine wpAnyH_ready (rs := [9]) (by kernel_rfl) (by simp) ?_
  refine AllReadyH.cons rfl (fun K hK => ?_) AllReadyH.nil
  go_simp
  refine (c4.out _).mono ?_; rintro e w4 ⟨rfl, y_w4⟩; have x_w4 := Ext.trans (show Ext W _ by assumption) y_w4; clear y_w4
  (try go_wp2_with fail)
  refine hK.out _ _ ?_ (fun hHeld => ?_)
  · (try dsimp only); (repeat' (with_reducible first | assumption | refine Ext.drew ?_ | refine Ext.drewN ?_ _ | exact Ext.refl _))
  clear hK K
  (try simp only [Act.put]); (try simp only [List.setIfInBounds_toArray]); (try simp only [List.set_cons_succ]); (try simp only [List.set_cons_zero])
  refine htakeW (i := 10) (v := ?_) (some 13) rfl rfl (by kernel_rfl) (by kernel_rfl) (by kernel_rfl) (fun _ _ _ h => h) (Or.inl ⟨by rfl, ?_⟩) (by assumption) ?_; rotate_left; (focus (intro w hSw; (try dsimp only at hSw); go_simp; (try with_reducible rfl))); (try simp only [Act.put]); (try simp only [List.setIfInBounds_toArray]); (try simp only [List.set_cons_succ]); (try simp only [List.set_cons_zero])
  refine htakeW (i := 11) (v := ?_) (some 14) rfl rfl (by kernel_rfl) (by kernel_rfl) (by kernel_rfl) (fun _ _ _ h => h) (Or.inl ⟨by rfl, ?_⟩) (by assumption) ?_; rotate_left; (focus (intro w hSw; (try dsimp only at hSw); go_simp; (try with_reducible rfl))); (try simp only [Act.put]); (try simp only [List.setIfInBounds_toArray]); (try simp only [List.set_cons_succ]); (try simp only [List.set_cons_zero])
  refine htakeW (i := 12) (v := ?_) (some 15) rfl rfl (by kernel_rfl) (by kernel_rfl) (by kernel_rfl) (fun _ _ _ h => h) (Or.inl ⟨by rfl, ?_⟩) (by assumption) ?_; rotate_left; (focus (intro w hSw; (try dsimp only at hSw); go_simp; (try with_reducible rfl))); (try simp only [Act.put]); (try simp only [List.setIfInBounds_toArray]); (try simp only [List.set_cons_succ]); (try simp only [List.set_cons_zero])
  refine wpAnyH_ready (rs := [13]) (by kernel_rfl) (by simp) ?_
  refine AllReadyH.cons rfl (fun K hK => ?_) AllReadyH.nil
  go_simp
  refine (ka.out _).mono ?_; rintro e w5 ⟨rfl, y_w5⟩; have x_w5 := Ext.trans (show Ext W _ by assumption) y_w5; clear y_w5
  (try go_wp2_with fail)
  refine hK.out _ _ ?_ (fun hHeld => ?_)
  · (try dsimp only); (repeat' (with_reducible first | assumption | refine Ext.drew ?_ | refine Ext.drewN ?_ _ | exact Ext.refl _))
  clear hK K
  (try simp only [Act.put]); (try simp only [List.setIfInBounds_toArray]); (try simp only [List.set_cons_succ]); (try simp only [List.set_cons_zero])
  refine htakeW (i := 14) (v := ?_) (some 17) rfl rfl (by kernel_rfl) (by kernel_rfl) (by kernel_rfl) (fun _ _ _ h => h) (Or.inl ⟨by rfl, ?_⟩) (by assumption) ?_; rotate_left; (focus (intro w hSw; (try dsimp only at hSw); go_simp; (try with_reducible rfl))); (try simp only [Act.put]); (try simp only [List.setIfInBounds_toArray]); (try simp only [List.set_cons_succ]); (try simp only [List.set_cons_zero])
  refine htakeW (i := 15) (v := ?_) (some 2) rfl rfl (by kernel_rfl) (by kernel_rfl) (by kernel_rfl) (fun _ _ _ h => h) (Or.inl ⟨by rfl, ?_⟩) (by assumption) ?_; rotate_left; (focus (intro w hSw; (try dsimp only at hSw); go_simp; (try with_reducible rfl))); (try simp only [Act.put]); (try simp only [List.setIfInBounds_toArray]); (try simp only [List.set_cons_succ]); (try simp only [List.set_cons_zero])
  refine wpAnyH_done (by kernel_rfl) ?_ _
  go_wp2_with fail
  go_ret
  exact ⟨rfl, X_W.out.trans (by assumption)⟩
set_option maxHeartbeats 4000000 in
theorem law_ThermalSteps (p l m a t d : Int) (w : World) : Calls Try.prog 10 #[.agg #[.int .i64 p, .int .i64 l, .int .i64 m, .int .i64 a], .int .i64 t, .int .i64 d] w fun e w' => e = .returned (.bool true) ∧ Ext w w' := by
  have ka := Lib.hid law_awake
  have h := hst_is p l m a t d
  generalize hst p l m a t d = r at *
  have c1 := Lib.hid fun w => thermal_HStep p l m a t d r h w
  have c2 := Lib.hid fun w => additiveref48_HStep p l m a t d r h w
  have e1 := beq_t (rfl : r = r)
  clear h
  go_enter Try.func10, Try.ntmps10
  go_wp2_with fail
  refine wp_world fun W h_W => ?_
  have q0_W : W.cell? ⟨w.heap.size, 0, none⟩ = some (.int .i64 p) := by rw [h_W]; go_simp
  have u0_W : ∀ w', Ext W w' → w'.cell? ⟨w.heap.size, 0, none⟩ = some (.int .i64 p) := fun _ h => h.keep q0_W
  have q1_W : W.cell? ⟨w.heap.size, 1, none⟩ = some (.int .i64 l) := by rw [h_W]; go_simp
  have u1_W : ∀ w', Ext W w' → w'.cell? ⟨w.heap.size, 1, none⟩ = some (.int .i64 l) := fun _ h => h.keep q1_W
  have q2_W : W.cell? ⟨w.heap.size, 2, none⟩ = some (.int .i64 m) := by rw [h_W]; go_simp
  have u2_W : ∀ w', Ext W w' → w'.cell? ⟨w.heap.size, 2, none⟩ = some (.int .i64 m) := fun _ h => h.keep q2_W
  have q3_W : W.cell? ⟨w.heap.size, 3, none⟩ = some (.int .i64 a) := by rw [h_W]; go_simp
  have u3_W : ∀ w', Ext W w' → w'.cell? ⟨w.heap.size, 3, none⟩ = some (.int .i64 a) := fun _ h => h.keep q3_W
  have X_W := Lib.hid (show Ext w W by rw [h_W]; exact (by (repeat' (with_reducible first | refine Ext.drew ?_ | refine Ext.drewN ?_ _ | refine Ext.alloc ?_ _ | exact Ext.refl _ | fail | (refine Ext.setCell ?_ ?_ _; rotate_left; (focus ((try simp); try omega)))))))
  clear h_W
  refine wp_region_held_drew (S := fun w' => Ext W w') (by kernel_rfl) (by (try dsimp only); (repeat' (with_reducible first | assumption | refine Ext.drew ?_ | refine Ext.drewN ?_ _ | exact Ext.refl _))) (fun hHeld => ?_)
  refine htakeW (i := 0) (v := ?_) (some 7) rfl rfl (by kernel_rfl) (by kernel_rfl) (by kernel_rfl) (fun _ _ _ h => h) (Or.inl ⟨by rfl, ?_⟩) (by assumption) ?_; rotate_left; (focus (intro w hSw; (try dsimp only at hSw); go_simp; (try with_reducible rfl))); (try simp only [Act.put]); (try simp only [List.setIfInBounds_toArray]); (try simp only [List.set_cons_succ]); (try simp only [List.set_cons_zero])
  refine htakeW (i := 1) (v := ?_) (some 8) rfl rfl (by kernel_rfl) (by kernel_rfl) (by kernel_rfl) (fun _ _ _ h => h) (Or.inl ⟨by rfl, ?_⟩) (by assumption) ?_; rotate_left; (focus (intro w hSw; (try dsimp only at hSw); go_simp; (try with_reducible rfl))); (try simp only [Act.put]); (try simp only [List.setIfInBounds_toArray]); (try simp only [List.set_cons_succ]); (try simp only [List.set_cons_zero])
  refine htakeW (i := 2) (v := ?_) (some 9) rfl rfl (by kernel_rfl) (by kernel_rfl) (by kernel_rfl) (fun _ _ _ h => h) (Or.inl ⟨by rfl, ?_⟩) (by assumption) ?_; rotate_left; (focus (intro w hSw; (try dsimp only at hSw); go_simp; (try with_reducible rfl))); (try simp only [Act.put]); (try simp only [List.setIfInBounds_toArray]); (try simp only [List.set_cons_succ]); (try simp only [List.set_cons_zero])
  refine htakeW (i := 4) (v := ?_) (some 11) rfl rfl (by kernel_rfl) (by kernel_rfl) (by kernel_rfl) (fun _ _ _ h => h) (Or.inl ⟨by rfl, ?_⟩) (by assumption) ?_; rotate_left; (focus (intro w hSw; (try dsimp only at hSw); go_simp; (try with_reducible rfl))); (try simp only [Act.put]); (try simp only [List.setIfInBounds_toArray]); (try simp only [List.set_cons_succ]); (try simp only [List.set_cons_zero])
  refine htakeW (i := 5) (v := ?_) (some 12) rfl rfl (by kernel_rfl) (by kernel_rfl) (by kernel_rfl) (fun _ _ _ h => h) (Or.inl ⟨by rfl, ?_⟩) (by assumption) ?_; rotate_left; (focus (intro w hSw; (try dsimp only at hSw); go_simp; (try with_reducible rfl))); (try simp only [Act.put]); (try simp only [List.setIfInBounds_toArray]); (try simp only [List.set_cons_succ]); (try simp only [List.set_cons_zero])
  refine htakeW (i := 6) (v := ?_) (some 13) rfl rfl (by kernel_rfl) (by kernel_rfl) (by kernel_rfl) (fun _ _ _ h => h) (Or.inl ⟨by rfl, ?_⟩) (by assumption) ?_; rotate_left; (focus (intro w hSw; (try dsimp only at hSw); go_simp; (try with_reducible rfl))); (try simp only [Act.put]); (try simp only [List.setIfInBounds_toArray]); (try simp only [List.set_cons_succ]); (try simp only [List.set_cons_zero])
  refine wpAnyH_ready (rs := [3]) (by kernel_rfl) (by simp) ?_
  refine AllReadyH.cons rfl (fun K hK => ?_) AllReadyH.nil
  go_simp
  refine (c1.out _).mono ?_; rintro e w1 ⟨rfl, y_w1⟩; have x_w1 := Ext.trans (show Ext W _ by assumption) y_w1; clear y_w1
  (try go_wp2_with fail)
  refine hK.out _ _ ?_ (fun hHeld => ?_)
  · (try dsimp only); (repeat' (with_reducible first | assumption | refine Ext.drew ?_ | refine Ext.drewN ?_ _ | exact Ext.refl _))
  clear hK K
  (try simp only [Act.put]); (try simp only [List.setIfInBounds_toArray]); (try simp only [List.set_cons_succ]); (try simp only [List.set_cons_zero])
  refine wpAnyH_ready (rs := [7]) (by kernel_rfl) (by simp) ?_
  refine AllReadyH.cons rfl (fun K hK => ?_) AllReadyH.nil
  go_simp
  refine (c2.out _).mono ?_; rintro e w2 ⟨rfl, y_w2⟩; have x_w2 := Ext.trans (show Ext W _ by assumption) y_w2; clear y_w2
  (try go_wp2_with fail)
  refine hK.out _ _ ?_ (fun hHeld => ?_)
  · (try dsimp only); (repeat' (with_reducible first | assumption | refine Ext.drew ?_ | refine Ext.drewN ?_ _ | exact Ext.refl _))
  clear hK K
  (try simp only [Act.put]); (try simp only [List.setIfInBounds_toArray]); (try simp only [List.set_cons_succ]); (try simp only [List.set_cons_zero])
  refine htakeW (i := 8) (v := ?_) (some 15) rfl rfl (by kernel_rfl) (by kernel_rfl) (by kernel_rfl) (fun _ _ _ h => h) (Or.inl ⟨by rfl, ?_⟩) (by assumption) ?_; rotate_left; (focus (intro w hSw; (try dsimp only at hSw); go_simp; (try with_reducible rfl))); (try simp only [Act.put]); (try simp only [List.setIfInBounds_toArray]); (try simp only [List.set_cons_succ]); (try simp only [List.set_cons_zero])
  refine htakeW (i := 9) (v := ?_) (some 16) rfl rfl (by kernel_rfl) (by kernel_rfl) (by kernel_rfl) (fun _ _ _ h => h) (Or.inl ⟨by rfl, ?_⟩) (by assumption) ?_; rotate_left; (focus (intro w hSw; (try dsimp only at hSw); go_simp; (try with_reducible rfl))); (try simp only [Act.put]); (try simp only [List.setIfInBounds_toArray]); (try simp only [List.set_cons_succ]); (try simp only [List.set_cons_zero])
  refine wpAnyH_ready (rs := [10]) (by kernel_rfl) (by simp) ?_
  refine AllReadyH.cons rfl (fun K hK => ?_) AllReadyH.nil
  go_simp
  refine (ka.out _).mono ?_; rintro e w3 ⟨rfl, y_w3⟩; have x_w3 := Ext.trans (show Ext W _ by assumption) y_w3; clear y_w3
  (try go_wp2_with fail)
  refine hK.out _ _ ?_ (fun hHeld => ?_)
  · (try dsimp only); (repeat' (with_reducible first | assumption | refine Ext.drew ?_ | refine Ext.drewN ?_ _ | exact Ext.refl _))
  clear hK K
  (try simp only [Act.put]); (try simp only [List.setIfInBounds_toArray]); (try simp only [List.set_cons_succ]); (try simp only [List.set_cons_zero])
  refine htakeW (i := 11) (v := ?_) (some 18) rfl rfl (by kernel_rfl) (by kernel_rfl) (by kernel_rfl) (fun _ _ _ h => h) (Or.inl ⟨by rfl, ?_⟩) (by assumption) ?_; rotate_left; (focus (intro w hSw; (try dsimp only at hSw); go_simp; (try with_reducible rfl))); (try simp only [Act.put]); (try simp only [List.setIfInBounds_toArray]); (try simp only [List.set_cons_succ]); (try simp only [List.set_cons_zero])
  refine htakeW (i := 12) (v := ?_) (some 6) rfl rfl (by kernel_rfl) (by kernel_rfl) (by kernel_rfl) (fun _ _ _ h => h) (Or.inl ⟨by rfl, ?_⟩) (by assumption) ?_; rotate_left; (focus (intro w hSw; (try dsimp only at hSw); go_simp; (try with_reducible rfl))); (try simp only [Act.put]); (try simp only [List.setIfInBounds_toArray]); (try simp only [List.set_cons_succ]); (try simp only [List.set_cons_zero])
  refine wpAnyH_done (by kernel_rfl) ?_ _
  go_wp2_with fail
  go_ret
  exact ⟨rfl, X_W.out.trans (by assumption)⟩
/-- A greater temperature or duty leads to no lesser temperature. -/
theorem hst_mono (p l m a s t d e : Int) (h1 : s ≤ t) (h2 : d ≤ e) : hst p l m a s d ≤ hst p l m a t e := by
  unfold hst
  by_cases h : HVal p l m a
  · rw [if_pos h, if_pos h]
    obtain ⟨p0, p1, l0, l1, m0, m1, a0, a1⟩ := h
    unfold hstep
    obtain ⟨s', hs⟩ : ∃ s', s' = max (-1073741824) (min s 1073741824) := ⟨_, rfl⟩
    obtain ⟨t', ht⟩ : ∃ t', t' = max (-1073741824) (min t 1073741824) := ⟨_, rfl⟩
    obtain ⟨d', hd⟩ : ∃ d', d' = max 0 (min d 255) := ⟨_, rfl⟩
    obtain ⟨e', he⟩ : ∃ e', e' = max 0 (min e 255) := ⟨_, rfl⟩
    rw [← hs, ← ht, ← hd, ← he]
    have b1 : s' ≤ t' := by omega
    have b2 : d' ≤ e' := by omega
    have n1 : d' * p ≤ e' * p := Int.mul_le_mul_of_nonneg_right b2 p0
    have n2 : l * (t' - s') ≤ m * (t' - s') := Int.mul_le_mul_of_nonneg_right m0 (by omega)
    have e1 : s' + (d' * p - l * (s' - a)) / m = (s' * m + (d' * p - l * (s' - a))) / m := by
      rw [Int.add_comm (s' * m), Int.add_mul_ediv_right _ _ (by omega)]; omega
    have e2 : t' + (e' * p - l * (t' - a)) / m = (t' * m + (e' * p - l * (t' - a))) / m := by
      rw [Int.add_comm (t' * m), Int.add_mul_ediv_right _ _ (by omega)]; omega
    rw [e1, e2]
    refine Int.ediv_le_ediv (by omega) ?_
    have r1 : l * (t' - a) = l * (t' - s') + l * (s' - a) := by rw [← Int.mul_add]; congr 1; omega
    have r2 : m * (t' - s') = t' * m - s' * m := by rw [Int.mul_sub, Int.mul_comm m, Int.mul_comm m]
    omega
  · rw [if_neg h, if_neg h]; exact Int.le_refl _

theorem hst_rest {p l m a : Int} (h : HVal p l m a) : hst p l m a a 0 = a ∧ hst p l m a a (-5) = a := by
  have ha : max (-1073741824) (min a 1073741824) = a := by unfold HVal at h; omega
  unfold hst hstep
  rw [if_pos h, if_pos h, ha, show max (0 : Int) (min 0 255) = 0 by decide, show max (0 : Int) (min (-5) 255) = 0 by decide]
  simp
theorem hst_cool {p l m a t : Int} (h : HVal p l m a) (ht : a ≤ t) : a ≤ hst p l m a t 0 ∧ hst p l m a t 0 ≤ t := by
  unfold hst hstep
  rw [if_pos h, show max (0 : Int) (min 0 255) = 0 by decide]
  obtain ⟨p0, p1, l0, l1, m0, m1, a0, a1⟩ := h
  obtain ⟨s, hs⟩ : ∃ s, s = max (-1073741824) (min t 1073741824) := ⟨_, rfl⟩
  rw [← hs]
  have b1 : a ≤ s := by omega
  have b2 : s ≤ t := by omega
  clear hs
  have n1 : l * (s - a) ≤ m * (s - a) := Int.mul_le_mul_of_nonneg_right m0 (by omega)
  have n2 : 0 ≤ l * (s - a) := Int.mul_nonneg (by omega) (by omega)
  have q1 : (0 * p - l * (s - a)) / m ≤ 0 := by
    have := Int.ediv_le_ediv (show 0 < m by omega) (show 0 * p - l * (s - a) ≤ 0 by omega)
    simpa using this
  have q2 : -(s - a) ≤ (0 * p - l * (s - a)) / m := by
    have := Int.ediv_le_ediv (show 0 < m by omega) (show -(s - a) * m ≤ 0 * p - l * (s - a) by rw [Int.neg_mul, Int.mul_comm (s - a)]; omega)
    rwa [Int.mul_ediv_cancel _ (by omega)] at this
  omega
set_option maxHeartbeats 4000000 in
theorem law_ThermalRests (p l m a t : Int) (w : World) : Calls Try.prog 14 #[.agg #[.int .i64 p, .int .i64 l, .int .i64 m, .int .i64 a], .int .i64 t] w fun e w' => e = .returned (.bool true) ∧ Ext w w' := by
  have ka := Lib.hid law_awake
  by_cases hv : HVal p l m a
  · have c1 := Lib.hid fun w => thermal_HValid p l m a true (by rw [decide_eq_true hv]) w
    have c2 := Lib.hid fun w => thermal_HStep p l m a a 0 a (.inl ⟨hv, by have := (hst_rest hv).1; rw [hst, if_pos hv] at this; exact this.symm⟩) w
    have c3 := Lib.hid fun w => thermal_HStep p l m a a (-5) a (.inl ⟨hv, by have := (hst_rest hv).2; rw [hst, if_pos hv] at this; exact this.symm⟩) w
    have h4 := hst_is p l m a t 0
    have h5 := fun ht => hst_cool (t := t) hv ht
    generalize hst p l m a t 0 = r at *
    have c4 := Lib.hid fun w => thermal_HStep p l m a t 0 r h4 w
    have e0 := bne_f (rfl : a = a)
    clear hv h4
    go_enter Try.func14, Try.ntmps14
    go_wp2_with fail
    refine (c1.out _).mono ?_; rintro e w1 ⟨rfl, x_w1⟩
    obtain ⟨k_w1, f_w1⟩ := bcell x_w1
    have s_w1 := x_w1.size; (try simp at s_w1)
    have z0_w1 : w.heap.size < w1.heap.size := by omega
    have X_w1 := Lib.hid (show Ext w w1 from Ext.trans (by (repeat' (with_reducible first | refine Ext.drew ?_ | refine Ext.drewN ?_ _ | refine Ext.alloc ?_ _ | exact Ext.refl _ | fail | (refine Ext.setCell ?_ ?_ _; rotate_left; (focus ((try simp); try omega)))))) x_w1)
    clear x_w1 s_w1
    go_wp2_with fail
    refine wp_world fun W h_W => ?_
    have q0_W : W.cell? ⟨w.heap.size, 0, none⟩ = some (.int .i64 p) := by rw [h_W]; go_simp
    have u0_W : ∀ w', Ext W w' → w'.cell? ⟨w.heap.size, 0, none⟩ = some (.int .i64 p) := fun _ h => h.keep q0_W
    have q1_W : W.cell? ⟨w.heap.size, 1, none⟩ = some (.int .i64 l) := by rw [h_W]; go_simp
    have u1_W : ∀ w', Ext W w' → w'.cell? ⟨w.heap.size, 1, none⟩ = some (.int .i64 l) := fun _ h => h.keep q1_W
    have q2_W : W.cell? ⟨w.heap.size, 2, none⟩ = some (.int .i64 m) := by rw [h_W]; go_simp
    have u2_W : ∀ w', Ext W w' → w'.cell? ⟨w.heap.size, 2, none⟩ = some (.int .i64 m) := fun _ h => h.keep q2_W
    have q3_W : W.cell? ⟨w.heap.size, 3, none⟩ = some (.int .i64 a) := by rw [h_W]; go_simp
    have u3_W : ∀ w', Ext W w' → w'.cell? ⟨w.heap.size, 3, none⟩ = some (.int .i64 a) := fun _ h => h.keep q3_W
    have X_W := Lib.hid (show Ext w W by rw [h_W]; exact (by (repeat' (with_reducible first | refine Ext.drew ?_ | refine Ext.drewN ?_ _ | refine Ext.alloc ?_ _ | exact Ext.refl _ | exact X_w1.out | (refine Ext.setCell ?_ ?_ _; rotate_left; (focus ((try simp); try omega)))))))
    clear h_W
    refine wp_region_held_drew (S := fun w' => Ext W w') (by kernel_rfl) (by (try dsimp only); (repeat' (with_reducible first | assumption | refine Ext.drew ?_ | refine Ext.drewN ?_ _ | exact Ext.refl _))) (fun hHeld => ?_)
    refine htakeW (i := 0) (v := ?_) (some 21) rfl rfl (by kernel_rfl) (by kernel_rfl) (by kernel_rfl) (fun _ _ _ h => h) (Or.inl ⟨by rfl, ?_⟩) (by assumption) ?_; rotate_left; (focus (intro w hSw; (try dsimp only at hSw); go_simp; (try with_reducible rfl))); (try simp only [Act.put]); (try simp only [List.setIfInBounds_toArray]); (try simp only [List.set_cons_succ]); (try simp only [List.set_cons_zero])
    refine htakeW (i := 1) (v := ?_) (some 22) rfl rfl (by kernel_rfl) (by kernel_rfl) (by kernel_rfl) (fun _ _ _ h => h) (Or.inl ⟨by rfl, ?_⟩) (by assumption) ?_; rotate_left; (focus (intro w hSw; (try dsimp only at hSw); go_simp; (try with_reducible rfl))); (try simp only [Act.put]); (try simp only [List.setIfInBounds_toArray]); (try simp only [List.set_cons_succ]); (try simp only [List.set_cons_zero])
    refine htakeW (i := 2) (v := ?_) (some 23) rfl rfl (by kernel_rfl) (by kernel_rfl) (by kernel_rfl) (fun _ _ _ h => h) (Or.inl ⟨by rfl, ?_⟩) (by assumption) ?_; rotate_left; (focus (intro w hSw; (try dsimp only at hSw); go_simp; (try with_reducible rfl))); (try simp only [Act.put]); (try simp only [List.setIfInBounds_toArray]); (try simp only [List.set_cons_succ]); (try simp only [List.set_cons_zero])
    refine htakeW (i := 4) (v := ?_) (some 25) rfl rfl (by kernel_rfl) (by kernel_rfl) (by kernel_rfl) (fun _ _ _ h => h) (Or.inl ⟨by rfl, ?_⟩) (by assumption) ?_; rotate_left; (focus (intro w hSw; (try dsimp only at hSw); go_simp; (try with_reducible rfl))); (try simp only [Act.put]); (try simp only [List.setIfInBounds_toArray]); (try simp only [List.set_cons_succ]); (try simp only [List.set_cons_zero])
    refine htakeW (i := 5) (v := ?_) (some 26) rfl rfl (by kernel_rfl) (by kernel_rfl) (by kernel_rfl) (fun _ _ _ h => h) (Or.inl ⟨by rfl, ?_⟩) (by assumption) ?_; rotate_left; (focus (intro w hSw; (try dsimp only at hSw); go_simp; (try with_reducible rfl))); (try simp only [Act.put]); (try simp only [List.setIfInBounds_toArray]); (try simp only [List.set_cons_succ]); (try simp only [List.set_cons_zero])
    refine wpAnyH_ready (rs := [3]) (by kernel_rfl) (by simp) ?_
    refine AllReadyH.cons rfl (fun K hK => ?_) AllReadyH.nil
    go_simp
    refine (c2.out _).mono ?_; rintro e w2 ⟨rfl, y_w2⟩; have x_w2 := Ext.trans (show Ext W _ by assumption) y_w2; clear y_w2
    (try go_wp2_with fail)
    refine hK.out _ _ ?_ (fun hHeld => ?_)
    · (try dsimp only); (repeat' (with_reducible first | assumption | refine Ext.drew ?_ | refine Ext.drewN ?_ _ | exact Ext.refl _))
    clear hK K
    (try simp only [Act.put]); (try simp only [List.setIfInBounds_toArray]); (try simp only [List.set_cons_succ]); (try simp only [List.set_cons_zero])
    refine htakeW (i := 6) (v := ?_) (some 27) rfl rfl (by kernel_rfl) (by kernel_rfl) (by kernel_rfl) (fun _ _ _ h => h) (Or.inl ⟨by rfl, ?_⟩) (by assumption) ?_; rotate_left; (focus (intro w hSw; (try dsimp only at hSw); go_simp; (try with_reducible rfl))); (try simp only [Act.put]); (try simp only [List.setIfInBounds_toArray]); (try simp only [List.set_cons_succ]); (try simp only [List.set_cons_zero])
    refine htakeW (i := 7) (v := ?_) (some 28) rfl rfl (by kernel_rfl) (by kernel_rfl) (by kernel_rfl) (fun _ _ _ h => h) (Or.inl ⟨by rfl, ?_⟩) (by assumption) ?_; rotate_left; (focus (intro w hSw; (try dsimp only at hSw); go_simp; (try with_reducible rfl))); (try simp only [Act.put]); (try simp only [List.setIfInBounds_toArray]); (try simp only [List.set_cons_succ]); (try simp only [List.set_cons_zero])
    refine htakeW (i := 8) (v := ?_) (some 29) rfl rfl (by kernel_rfl) (by kernel_rfl) (by kernel_rfl) (fun _ _ _ h => h) (Or.inl ⟨by rfl, ?_⟩) (by assumption) ?_; rotate_left; (focus (intro w hSw; (try dsimp only at hSw); go_simp; (try with_reducible rfl))); (try simp only [Act.put]); (try simp only [List.setIfInBounds_toArray]); (try simp only [List.set_cons_succ]); (try simp only [List.set_cons_zero])
    refine htakeW (i := 9) (v := ?_) (some 30) rfl rfl (by kernel_rfl) (by kernel_rfl) (by kernel_rfl) (fun _ _ _ h => h) (Or.inl ⟨by rfl, ?_⟩) (by assumption) ?_; rotate_left; (focus (intro w hSw; (try dsimp only at hSw); go_simp; (try with_reducible rfl))); (try simp only [Act.put]); (try simp only [List.setIfInBounds_toArray]); (try simp only [List.set_cons_succ]); (try simp only [List.set_cons_zero])
    refine htakeW (i := 10) (v := ?_) (some 31) rfl rfl (by kernel_rfl) (by kernel_rfl) (by kernel_rfl) (fun _ _ _ h => h) (Or.inl ⟨by rfl, ?_⟩) (by assumption) ?_; rotate_left; (focus (intro w hSw; (try dsimp only at hSw); go_simp; (try with_reducible rfl))); (try simp only [Act.put]); (try simp only [List.setIfInBounds_toArray]); (try simp only [List.set_cons_succ]); (try simp only [List.set_cons_zero])
    refine htakeW (i := 12) (v := ?_) (some 33) rfl rfl (by kernel_rfl) (by kernel_rfl) (by kernel_rfl) (fun _ _ _ h => h) (Or.inl ⟨by rfl, ?_⟩) (by assumption) ?_; rotate_left; (focus (intro w hSw; (try dsimp only at hSw); go_simp; (try with_reducible rfl))); (try simp only [Act.put]); (try simp only [List.setIfInBounds_toArray]); (try simp only [List.set_cons_succ]); (try simp only [List.set_cons_zero])
    refine htakeW (i := 13) (v := ?_) (some 34) rfl rfl (by kernel_rfl) (by kernel_rfl) (by kernel_rfl) (fun _ _ _ h => h) (Or.inl ⟨by rfl, ?_⟩) (by assumption) ?_; rotate_left; (focus (intro w hSw; (try dsimp only at hSw); go_simp; (try with_reducible rfl))); (try simp only [Act.put]); (try simp only [List.setIfInBounds_toArray]); (try simp only [List.set_cons_succ]); (try simp only [List.set_cons_zero])
    refine wpAnyH_ready (rs := [11]) (by kernel_rfl) (by simp) ?_
    refine AllReadyH.cons rfl (fun K hK => ?_) AllReadyH.nil
    go_simp
    refine (c3.out _).mono ?_; rintro e w3 ⟨rfl, y_w3⟩; have x_w3 := Ext.trans (show Ext W _ by assumption) y_w3; clear y_w3
    (try go_wp2_with fail)
    refine hK.out _ _ ?_ (fun hHeld => ?_)
    · (try dsimp only); (repeat' (with_reducible first | assumption | refine Ext.drew ?_ | refine Ext.drewN ?_ _ | exact Ext.refl _))
    clear hK K
    (try simp only [Act.put]); (try simp only [List.setIfInBounds_toArray]); (try simp only [List.set_cons_succ]); (try simp only [List.set_cons_zero])
    refine htakeW (i := 14) (v := ?_) (some 35) rfl rfl (by kernel_rfl) (by kernel_rfl) (by kernel_rfl) (fun _ _ _ h => h) (Or.inl ⟨by rfl, ?_⟩) (by assumption) ?_; rotate_left; (focus (intro w hSw; (try dsimp only at hSw); go_simp; (try with_reducible rfl))); (try simp only [Act.put]); (try simp only [List.setIfInBounds_toArray]); (try simp only [List.set_cons_succ]); (try simp only [List.set_cons_zero])
    refine htakeW (i := 15) (v := ?_) (some 36) rfl rfl (by kernel_rfl) (by kernel_rfl) (by kernel_rfl) (fun _ _ _ h => h) (Or.inl ⟨by rfl, ?_⟩) (by assumption) ?_; rotate_left; (focus (intro w hSw; (try dsimp only at hSw); go_simp; (try with_reducible rfl))); (try simp only [Act.put]); (try simp only [List.setIfInBounds_toArray]); (try simp only [List.set_cons_succ]); (try simp only [List.set_cons_zero])
    refine wpAnyH_done (by kernel_rfl) ?_ _
    go_wp2_with fail
    have zz : w.heap.size < W.heap.size := cell_lt q0_W
    obtain ⟨k_r, f_r⟩ := bcell (show Ext W _ from by assumption)
    refine (c4.out _).mono ?_; rintro e w4 ⟨rfl, x4⟩
    have XX := Lib.hid (X_W.out.trans ((show Ext W _ from by assumption).trans x4))
    have qa := ((show Ext W _ from by assumption).trans x4).keep q3_W
    clear x4
    by_cases h : t < a
    · have d1 := dlt_t h
      clear h5 h
      go_wp2_with fail
      refine (ka.out _).mono ?_; rintro e w5 ⟨rfl, x5⟩
      go_wp2_with fail
      go_ret
      exact ⟨rfl, XX.out.trans x5⟩
    · obtain ⟨h6, h7⟩ := h5 (by omega)
      have d1 := dlt_f (show a ≤ t by omega)
      have d2 := dle_t h6
      have d3 := dle_t h7
      clear h5 h h6 h7
      go_wp2_with fail
      refine (ka.out _).mono ?_; rintro e w5 ⟨rfl, x5⟩
      go_wp2_with fail
      go_ret
      exact ⟨rfl, XX.out.trans x5⟩
  · have c1 := Lib.hid fun w => thermal_HValid p l m a false (by rw [decide_eq_false hv]) w
    have c2 := Lib.hid fun w => thermal_HStep p l m a t 1 0 (.inr ⟨hv, rfl⟩) w
    have c3 := Lib.hid fun w => thermal_Top p l m a 0 (.inr ⟨hv, rfl⟩) w
    clear hv
    go_enter Try.func14, Try.ntmps14
    go_wp2_with fail
    refine (c1.out _).mono ?_; rintro e w1 ⟨rfl, x_w1⟩
    obtain ⟨k_w1, f_w1⟩ := bcell x_w1
    have s_w1 := x_w1.size; (try simp at s_w1)
    have z0_w1 : w.heap.size < w1.heap.size := by omega
    have X_w1 := Lib.hid (show Ext w w1 from Ext.trans (by (repeat' (with_reducible first | refine Ext.drew ?_ | refine Ext.drewN ?_ _ | refine Ext.alloc ?_ _ | exact Ext.refl _ | fail | (refine Ext.setCell ?_ ?_ _; rotate_left; (focus ((try simp); try omega)))))) x_w1)
    clear x_w1 s_w1
    go_wp2_with fail
    refine (c2.out _).mono ?_; rintro e w2 ⟨rfl, x_w2⟩
    obtain ⟨k_w2, f_w2⟩ := bcell x_w2
    have s_w2 := x_w2.size; (try simp at s_w2)
    have z0_w2 : w.heap.size < w2.heap.size := by omega
    have X_w2 := Lib.hid (show Ext w w2 from Ext.trans (by (repeat' (with_reducible first | refine Ext.drew ?_ | refine Ext.drewN ?_ _ | refine Ext.alloc ?_ _ | exact Ext.refl _ | exact X_w1.out | (refine Ext.setCell ?_ ?_ _; rotate_left; (focus ((try simp); try omega)))))) x_w2)
    clear x_w2 s_w2
    go_wp2_with fail
    refine (c3.out _).mono ?_; rintro e w3 ⟨rfl, x_w3⟩
    obtain ⟨k_w3, f_w3⟩ := bcell x_w3
    have s_w3 := x_w3.size; (try simp at s_w3)
    have z0_w3 : w.heap.size < w3.heap.size := by omega
    have X_w3 := Lib.hid (show Ext w w3 from Ext.trans (by (repeat' (with_reducible first | refine Ext.drew ?_ | refine Ext.drewN ?_ _ | refine Ext.alloc ?_ _ | exact Ext.refl _ | exact X_w2.out | exact X_w1.out | (refine Ext.setCell ?_ ?_ _; rotate_left; (focus ((try simp); try omega)))))) x_w3)
    clear x_w3 s_w3
    go_wp2_with fail
    refine (ka.out _).mono ?_; rintro e w4 ⟨rfl, x_w4⟩
    obtain ⟨k_w4, f_w4⟩ := bcell x_w4
    have X_w4 := Lib.hid (show Ext w w4 from Ext.trans (by (repeat' (with_reducible first | refine Ext.drew ?_ | refine Ext.drewN ?_ _ | refine Ext.alloc ?_ _ | exact Ext.refl _ | exact X_w3.out | exact X_w2.out | exact X_w1.out | (refine Ext.setCell ?_ ?_ _; rotate_left; (focus ((try simp); try omega)))))) x_w4)
    clear x_w4
    go_wp2_with fail
    go_ret
    exact ⟨rfl, by (repeat' (with_reducible first | refine Ext.drew ?_ | refine Ext.drewN ?_ _ | refine Ext.alloc ?_ _ | exact Ext.refl _ | exact X_w4.out | exact X_w3.out | exact X_w2.out | exact X_w1.out | (refine Ext.setCell ?_ ?_ _; rotate_left; (focus ((try simp); try omega)))))⟩
end Go.Proofs.Ythgmacoljkljfaa

