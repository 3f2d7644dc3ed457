/-
  The walk of the law ControlValid: it answers true.
-/
import Derived.Test.YtnljefglidhnjaaCtC
namespace Go.Proofs.Ytnljefglidhnjaa
open Go.RowKit
theorem htakeV {P : Program} {ops : Array Oper} {Q : Exit → Act → World → Prop} {md : Region.Mode} {S : World → Prop} {i : Nat} {oi : Oper} {v : Value} {fuel : Nat} {listed : Array Bool} {a : Act} {w : World} (d : Option Tmp) (hi : ops[i]? = some oi) (hd : oi.dst = d)
    (hs : Region.noSelect ops = true) (hf : Region.free md ops listed i = true) (hr : (Region.ready md ops listed).contains i = true)
    (hQ : ∀ c a w, Q (.panic c) (a.put d v) w → Q (.panic c) a w) (hy : YieldsIf P ops S oi v a) (hS : S w)
    (h : wpAnyH P md ops Q S fuel (listed.setIfInBounds i true) (a.put d v) w) : wpAnyH P md ops Q S (fuel + 1) listed a w := by
  subst hd
  exact wpAnyH_take hi hs hf hr hQ hy hS h

/-- What Aim answers. -/
def AimIs (T p i s u l t A0 A1 A2 A3 A4 A5 e : Int) : Prop := (CVal T p i s u l ∧ 0 ≤ t ∧ t ≤ 400000 ∧ A0 = t ∧ A1 = p ∧ A2 = i ∧ A3 = s ∧ A4 = 0 ∧ A5 = l ∧ e = 0) ∨ (¬ (CVal T p i s u l ∧ 0 ≤ t ∧ t ≤ 400000) ∧ A0 = 0 ∧ A1 = 0 ∧ A2 = 0 ∧ A3 = 0 ∧ A4 = 0 ∧ A5 = 0 ∧ e = 1)
theorem aimIs_ex (T p i s u l t : Int) : ∃ A0 A1 A2 A3 A4 A5 e, AimIs T p i s u l t A0 A1 A2 A3 A4 A5 e := by
  by_cases h : CVal T p i s u l ∧ 0 ≤ t ∧ t ≤ 400000
  · exact ⟨_, _, _, _, _, _, _, .inl ⟨h.1, h.2.1, h.2.2, rfl, rfl, rfl, rfl, rfl, rfl, rfl⟩⟩
  · exact ⟨_, _, _, _, _, _, _, .inr ⟨h, rfl, rfl, rfl, rfl, rfl, rfl, rfl⟩⟩
theorem control_Aim (T p i s u l t A0 A1 A2 A3 A4 A5 e : Int) (h : AimIs T p i s u l t A0 A1 A2 A3 A4 A5 e) (w : World) :
    Calls Try.prog 25 #[.agg #[.int .i64 T, .int .i64 p, .int .i64 i, .int .i64 s, .int .i64 u, .int .i64 l], .int .i64 t] w fun r w' => r = .returned (.tuple #[.agg #[.int .i64 A0, .int .i64 A1, .int .i64 A2, .int .i64 A3, .int .i64 A4, .int .i64 A5], .int .i64 e]) ∧ Ext w w' := by
  rcases h with ⟨h, t0, t1, rfl, rfl, rfl, rfl, rfl, rfl, rfl⟩ | ⟨h, rfl, rfl, rfl, rfl, rfl, rfl, rfl⟩
  · exact control_Aim_ok _ _ _ _ _ _ _ h t0 t1 w
  · exact control_Aim_no _ _ _ _ _ _ _ h w
theorem additiveref49_Aim (T p i s u l t A0 A1 A2 A3 A4 A5 e : Int) (h : AimIs T p i s u l t A0 A1 A2 A3 A4 A5 e) (w : World) :
    Calls Try.prog 26 #[.agg #[.int .i64 T, .int .i64 p, .int .i64 i, .int .i64 s, .int .i64 u, .int .i64 l], .int .i64 t] w fun r w' => r = .returned (.tuple #[.agg #[.int .i64 A0, .int .i64 A1, .int .i64 A2, .int .i64 A3, .int .i64 A4, .int .i64 A5], .int .i64 e]) ∧ Ext w w' := by
  rcases h with ⟨h, t0, t1, rfl, rfl, rfl, rfl, rfl, rfl, rfl⟩ | ⟨h, rfl, rfl, rfl, rfl, rfl, rfl, rfl⟩
  · exact additiveref49_Aim_ok _ _ _ _ _ _ _ h t0 t1 w
  · exact additiveref49_Aim_no _ _ _ _ _ _ _ h w
set_option maxHeartbeats 4000000 in
theorem law_ControlValid (T p i s u l t : Int) (w : World) : Calls Try.prog 9 #[.agg #[.int .i64 T, .int .i64 p, .int .i64 i, .int .i64 s, .int .i64 u, .int .i64 l], .int .i64 t] w fun e w' => e = .returned (.bool true) ∧ Ext w w' := by
  have ka := Lib.hid law_awake
  obtain ⟨A0, A1, A2, A3, A4, A5, e, h⟩ := aimIs_ex T p i s u l t
  obtain ⟨b, hb⟩ : ∃ b, b = decide (CVal T p i s u l) := ⟨_, rfl⟩
  have c1 := Lib.hid fun w => control_Aim T p i s u l t A0 A1 A2 A3 A4 A5 e h w
  have c2 := Lib.hid fun w => additiveref49_Aim T p i s u l t A0 A1 A2 A3 A4 A5 e h w
  have c3 := Lib.hid fun w => control_Valid T p i s u l b hb w
  have c4 := Lib.hid fun w => ref_CValid T p i s u l b hb w
  have eq := fun w => eqs A0 A1 A2 A3 A4 A5 w
  have e1 := beq_t (rfl : e = e)
  have e2 : (b == b) = true := by simp
  clear h hb
  go_enter Try.func9, Try.ntmps9
  go_wp2_with fail
  refine (c1.out _).mono ?_; rintro e w1 ⟨rfl, x_w1⟩
  obtain ⟨k_w1, f_w1⟩ := bcell x_w1
  have s_w1 := x_w1.size; (try simp at s_w1)
  have z0_w1 : w.heap.size < w1.heap.size := by omega
  have X_w1 := Lib.hid (show Ext w w1 from Ext.trans (by (repeat' (with_reducible first | refine Ext.drew ?_ | refine Ext.drewN ?_ _ | refine Ext.alloc ?_ _ | exact Ext.refl _ | fail | (refine Ext.setCell ?_ ?_ _; rotate_left; (focus (simp; try omega)))))) x_w1)
  clear x_w1 s_w1
  go_wp2_with fail
  refine (c2.out _).mono ?_; rintro e w2 ⟨rfl, x_w2⟩
  obtain ⟨k_w2, f_w2⟩ := bcell x_w2
  have s_w2 := x_w2.size; (try simp at s_w2)
  have z0_w2 : w.heap.size < w2.heap.size := by omega
  have z1_w2 : w1.heap.size < w2.heap.size := by omega
  have X_w2 := Lib.hid (show Ext w w2 from Ext.trans (by (repeat' (with_reducible first | refine Ext.drew ?_ | refine Ext.drewN ?_ _ | refine Ext.alloc ?_ _ | exact Ext.refl _ | exact X_w1.out | (refine Ext.setCell ?_ ?_ _; rotate_left; (focus (simp; try omega)))))) x_w2)
  clear x_w2 s_w2
  go_wp2_with fail
  refine wp_world fun W h_W => ?_
  have q0_W : W.cell? ⟨w.heap.size, 0, none⟩ = some (.int .i64 T) := by rw [h_W]; go_simp
  have u0_W : ∀ w', Ext W w' → w'.cell? ⟨w.heap.size, 0, none⟩ = some (.int .i64 T) := fun _ h => h.keep q0_W
  have q1_W : W.cell? ⟨w.heap.size, 1, none⟩ = some (.int .i64 p) := by rw [h_W]; go_simp
  have u1_W : ∀ w', Ext W w' → w'.cell? ⟨w.heap.size, 1, none⟩ = some (.int .i64 p) := fun _ h => h.keep q1_W
  have q2_W : W.cell? ⟨w.heap.size, 2, none⟩ = some (.int .i64 i) := by rw [h_W]; go_simp
  have u2_W : ∀ w', Ext W w' → w'.cell? ⟨w.heap.size, 2, none⟩ = some (.int .i64 i) := fun _ h => h.keep q2_W
  have q3_W : W.cell? ⟨w.heap.size, 3, none⟩ = some (.int .i64 s) := by rw [h_W]; go_simp
  have u3_W : ∀ w', Ext W w' → w'.cell? ⟨w.heap.size, 3, none⟩ = some (.int .i64 s) := fun _ h => h.keep q3_W
  have q4_W : W.cell? ⟨w.heap.size, 4, none⟩ = some (.int .i64 u) := by rw [h_W]; go_simp
  have u4_W : ∀ w', Ext W w' → w'.cell? ⟨w.heap.size, 4, none⟩ = some (.int .i64 u) := fun _ h => h.keep q4_W
  have q5_W : W.cell? ⟨w.heap.size, 5, none⟩ = some (.int .i64 l) := by rw [h_W]; go_simp
  have u5_W : ∀ w', Ext W w' → w'.cell? ⟨w.heap.size, 5, none⟩ = some (.int .i64 l) := fun _ h => h.keep q5_W
  have q6_W : W.cell? ⟨w1.heap.size, 0, none⟩ = some (.int .i64 A0) := by rw [h_W]; go_simp
  have u6_W : ∀ w', Ext W w' → w'.cell? ⟨w1.heap.size, 0, none⟩ = some (.int .i64 A0) := fun _ h => h.keep q6_W
  have q7_W : W.cell? ⟨w1.heap.size, 1, none⟩ = some (.int .i64 A1) := by rw [h_W]; go_simp
  have u7_W : ∀ w', Ext W w' → w'.cell? ⟨w1.heap.size, 1, none⟩ = some (.int .i64 A1) := fun _ h => h.keep q7_W
  have q8_W : W.cell? ⟨w1.heap.size, 2, none⟩ = some (.int .i64 A2) := by rw [h_W]; go_simp
  have u8_W : ∀ w', Ext W w' → w'.cell? ⟨w1.heap.size, 2, none⟩ = some (.int .i64 A2) := fun _ h => h.keep q8_W
  have q9_W : W.cell? ⟨w1.heap.size, 3, none⟩ = some (.int .i64 A3) := by rw [h_W]; go_simp
  have u9_W : ∀ w', Ext W w' → w'.cell? ⟨w1.heap.size, 3, none⟩ = some (.int .i64 A3) := fun _ h => h.keep q9_W
  have q10_W : W.cell? ⟨w1.heap.size, 4, none⟩ = some (.int .i64 A4) := by rw [h_W]; go_simp
  have u10_W : ∀ w', Ext W w' → w'.cell? ⟨w1.heap.size, 4, none⟩ = some (.int .i64 A4) := fun _ h => h.keep q10_W
  have q11_W : W.cell? ⟨w1.heap.size, 5, none⟩ = some (.int .i64 A5) := by rw [h_W]; go_simp
  have u11_W : ∀ w', Ext W w' → w'.cell? ⟨w1.heap.size, 5, none⟩ = some (.int .i64 A5) := fun _ h => h.keep q11_W
  have q12_W : W.cell? ⟨w2.heap.size, 0, none⟩ = some (.int .i64 A0) := by rw [h_W]; go_simp
  have u12_W : ∀ w', Ext W w' → w'.cell? ⟨w2.heap.size, 0, none⟩ = some (.int .i64 A0) := fun _ h => h.keep q12_W
  have q13_W : W.cell? ⟨w2.heap.size, 1, none⟩ = some (.int .i64 A1) := by rw [h_W]; go_simp
  have u13_W : ∀ w', Ext W w' → w'.cell? ⟨w2.heap.size, 1, none⟩ = some (.int .i64 A1) := fun _ h => h.keep q13_W
  have q14_W : W.cell? ⟨w2.heap.size, 2, none⟩ = some (.int .i64 A2) := by rw [h_W]; go_simp
  have u14_W : ∀ w', Ext W w' → w'.cell? ⟨w2.heap.size, 2, none⟩ = some (.int .i64 A2) := fun _ h => h.keep q14_W
  have q15_W : W.cell? ⟨w2.heap.size, 3, none⟩ = some (.int .i64 A3) := by rw [h_W]; go_simp
  have u15_W : ∀ w', Ext W w' → w'.cell? ⟨w2.heap.size, 3, none⟩ = some (.int .i64 A3) := fun _ h => h.keep q15_W
  have q16_W : W.cell? ⟨w2.heap.size, 4, none⟩ = some (.int .i64 A4) := by rw [h_W]; go_simp
  have u16_W : ∀ w', Ext W w' → w'.cell? ⟨w2.heap.size, 4, none⟩ = some (.int .i64 A4) := fun _ h => h.keep q16_W
  have q17_W : W.cell? ⟨w2.heap.size, 5, none⟩ = some (.int .i64 A5) := by rw [h_W]; go_simp
  have u17_W : ∀ w', Ext W w' → w'.cell? ⟨w2.heap.size, 5, none⟩ = some (.int .i64 A5) := fun _ h => h.keep q17_W
  have X_W := Lib.hid (show Ext w W by rw [h_W]; exact (by (repeat' (with_reducible first | refine Ext.drew ?_ | refine Ext.drewN ?_ _ | refine Ext.alloc ?_ _ | exact Ext.refl _ | exact X_w2.out | exact X_w1.out | (refine Ext.setCell ?_ ?_ _; rotate_left; (focus (simp; try omega)))))))
  clear h_W
  refine wp_region_held_drew (S := fun w' => Ext W w') (by kernel_rfl) (by (try dsimp only); (repeat' (with_reducible first | assumption | refine Ext.drew ?_ | refine Ext.drewN ?_ _ | exact Ext.refl _))) (fun hHeld => ?_)
  refine htakeV (i := 0) (v := ?_) (some 21) rfl rfl (by kernel_rfl) (by kernel_rfl) (by kernel_rfl) (fun _ _ _ h => h) (Or.inl ⟨by rfl, ?_⟩) (by assumption) ?_; rotate_left; (focus (intro w hSw; (try dsimp only at hSw); go_simp; (try with_reducible rfl))); (try simp only [Act.put]); (try simp only [List.setIfInBounds_toArray]); (try simp only [List.set_cons_succ]); (try simp only [List.set_cons_zero])
  refine htakeV (i := 2) (v := ?_) (some 23) rfl rfl (by kernel_rfl) (by kernel_rfl) (by kernel_rfl) (fun _ _ _ h => h) (Or.inl ⟨by rfl, ?_⟩) (by assumption) ?_; rotate_left; (focus (intro w hSw; (try dsimp only at hSw); go_simp; (try with_reducible rfl))); (try simp only [Act.put]); (try simp only [List.setIfInBounds_toArray]); (try simp only [List.set_cons_succ]); (try simp only [List.set_cons_zero])
  refine wpAnyH_ready (rs := [1]) (by kernel_rfl) (by simp) ?_
  refine AllReadyH.cons rfl (fun K hK => ?_) AllReadyH.nil
  go_simp
  refine (c3.out _).mono ?_; rintro e w3 ⟨rfl, y_w3⟩; have x_w3 := Ext.trans (show Ext W _ by assumption) y_w3; clear y_w3
  (try go_wp2_with fail)
  refine hK.out _ _ ?_ (fun hHeld => ?_)
  · (try dsimp only); (repeat' (with_reducible first | assumption | refine Ext.drew ?_ | refine Ext.drewN ?_ _ | exact Ext.refl _))
  clear hK K
  (try simp only [Act.put]); (try simp only [List.setIfInBounds_toArray]); (try simp only [List.set_cons_succ]); (try simp only [List.set_cons_zero])
  refine wpAnyH_ready (rs := [3]) (by kernel_rfl) (by simp) ?_
  refine AllReadyH.cons rfl (fun K hK => ?_) AllReadyH.nil
  go_simp
  refine (c4.out _).mono ?_; rintro e w4 ⟨rfl, y_w4⟩; have x_w4 := Ext.trans (show Ext W _ by assumption) y_w4; clear y_w4
  (try go_wp2_with fail)
  refine hK.out _ _ ?_ (fun hHeld => ?_)
  · (try dsimp only); (repeat' (with_reducible first | assumption | refine Ext.drew ?_ | refine Ext.drewN ?_ _ | exact Ext.refl _))
  clear hK K
  (try simp only [Act.put]); (try simp only [List.setIfInBounds_toArray]); (try simp only [List.set_cons_succ]); (try simp only [List.set_cons_zero])
  refine htakeV (i := 4) (v := ?_) (some 25) rfl rfl (by kernel_rfl) (by kernel_rfl) (by kernel_rfl) (fun _ _ _ h => h) (Or.inl ⟨by rfl, ?_⟩) (by assumption) ?_; rotate_left; (focus (intro w hSw; (try dsimp only at hSw); go_simp; (try with_reducible rfl))); (try simp only [Act.put]); (try simp only [List.setIfInBounds_toArray]); (try simp only [List.set_cons_succ]); (try simp only [List.set_cons_zero])
  refine htakeV (i := 5) (v := ?_) (some 26) rfl rfl (by kernel_rfl) (by kernel_rfl) (by kernel_rfl) (fun _ _ _ h => h) (Or.inl ⟨by rfl, ?_⟩) (by assumption) ?_; rotate_left; (focus (intro w hSw; (try dsimp only at hSw); go_simp; (try with_reducible rfl))); (try simp only [Act.put]); (try simp only [List.setIfInBounds_toArray]); (try simp only [List.set_cons_succ]); (try simp only [List.set_cons_zero])
  refine htakeV (i := 6) (v := ?_) (some 27) rfl rfl (by kernel_rfl) (by kernel_rfl) (by kernel_rfl) (fun _ _ _ h => h) (Or.inl ⟨by rfl, ?_⟩) (by assumption) ?_; rotate_left; (focus (intro w hSw; (try dsimp only at hSw); go_simp; (try with_reducible rfl))); (try simp only [Act.put]); (try simp only [List.setIfInBounds_toArray]); (try simp only [List.set_cons_succ]); (try simp only [List.set_cons_zero])
  refine htakeV (i := 7) (v := ?_) (some 28) rfl rfl (by kernel_rfl) (by kernel_rfl) (by kernel_rfl) (fun _ _ _ h => h) (Or.inl ⟨by rfl, ?_⟩) (by assumption) ?_; rotate_left; (focus (intro w hSw; (try dsimp only at hSw); go_simp; (try with_reducible rfl))); (try simp only [Act.put]); (try simp only [List.setIfInBounds_toArray]); (try simp only [List.set_cons_succ]); (try simp only [List.set_cons_zero])
  refine htakeV (i := 8) (v := ?_) (some 29) rfl rfl (by kernel_rfl) (by kernel_rfl) (by kernel_rfl) (fun _ _ _ h => h) (Or.inl ⟨by rfl, ?_⟩) (by assumption) ?_; rotate_left; (focus (intro w hSw; (try dsimp only at hSw); go_simp; (try with_reducible rfl))); (try simp only [Act.put]); (try simp only [List.setIfInBounds_toArray]); (try simp only [List.set_cons_succ]); (try simp only [List.set_cons_zero])
  refine htakeV (i := 9) (v := ?_) (some 30) rfl rfl (by kernel_rfl) (by kernel_rfl) (by kernel_rfl) (fun _ _ _ h => h) (Or.inl ⟨by rfl, ?_⟩) (by assumption) ?_; rotate_left; (focus (intro w hSw; (try dsimp only at hSw); go_simp; (try with_reducible rfl))); (try simp only [Act.put]); (try simp only [List.setIfInBounds_toArray]); (try simp only [List.set_cons_succ]); (try simp only [List.set_cons_zero])
  refine htakeV (i := 10) (v := ?_) (some 31) rfl rfl (by kernel_rfl) (by kernel_rfl) (by kernel_rfl) (fun _ _ _ h => h) (Or.inl ⟨by rfl, ?_⟩) (by assumption) ?_; rotate_left; (focus (intro w hSw; (try dsimp only at hSw); go_simp; (try with_reducible rfl))); (try simp only [Act.put]); (try simp only [List.setIfInBounds_toArray]); (try simp only [List.set_cons_succ]); (try simp only [List.set_cons_zero])
  refine htakeV (i := 11) (v := ?_) (some 32) rfl rfl (by kernel_rfl) (by kernel_rfl) (by kernel_rfl) (fun _ _ _ h => h) (Or.inl ⟨by rfl, ?_⟩) (by assumption) ?_; rotate_left; (focus (intro w hSw; (try dsimp only at hSw); go_simp; (try with_reducible rfl))); (try simp only [Act.put]); (try simp only [List.setIfInBounds_toArray]); (try simp only [List.set_cons_succ]); (try simp only [List.set_cons_zero])
  refine htakeV (i := 12) (v := ?_) (some 33) rfl rfl (by kernel_rfl) (by kernel_rfl) (by kernel_rfl) (fun _ _ _ h => h) (Or.inl ⟨by rfl, ?_⟩) (by assumption) ?_; rotate_left; (focus (intro w hSw; (try dsimp only at hSw); go_simp; (try with_reducible rfl))); (try simp only [Act.put]); (try simp only [List.setIfInBounds_toArray]); (try simp only [List.set_cons_succ]); (try simp only [List.set_cons_zero])
  refine htakeV (i := 13) (v := ?_) (some 34) rfl rfl (by kernel_rfl) (by kernel_rfl) (by kernel_rfl) (fun _ _ _ h => h) (Or.inl ⟨by rfl, ?_⟩) (by assumption) ?_; rotate_left; (focus (intro w hSw; (try dsimp only at hSw); go_simp; (try with_reducible rfl))); (try simp only [Act.put]); (try simp only [List.setIfInBounds_toArray]); (try simp only [List.set_cons_succ]); (try simp only [List.set_cons_zero])
  refine htakeV (i := 14) (v := ?_) (some 35) rfl rfl (by kernel_rfl) (by kernel_rfl) (by kernel_rfl) (fun _ _ _ h => h) (Or.inl ⟨by rfl, ?_⟩) (by assumption) ?_; rotate_left; (focus (intro w hSw; (try dsimp only at hSw); go_simp; (try with_reducible rfl))); (try simp only [Act.put]); (try simp only [List.setIfInBounds_toArray]); (try simp only [List.set_cons_succ]); (try simp only [List.set_cons_zero])
  refine htakeV (i := 15) (v := ?_) (some 36) rfl rfl (by kernel_rfl) (by kernel_rfl) (by kernel_rfl) (fun _ _ _ h => h) (Or.inl ⟨by rfl, ?_⟩) (by assumption) ?_; rotate_left; (focus (intro w hSw; (try dsimp only at hSw); go_simp; (try with_reducible rfl))); (try simp only [Act.put]); (try simp only [List.setIfInBounds_toArray]); (try simp only [List.set_cons_succ]); (try simp only [List.set_cons_zero])
  refine wpAnyH_ready (rs := [16]) (by kernel_rfl) (by simp) ?_
  refine AllReadyH.cons rfl (fun K hK => ?_) AllReadyH.nil
  go_simp
  refine (ka.out _).mono ?_; rintro e w5 ⟨rfl, y_w5⟩; have x_w5 := Ext.trans (show Ext W _ by assumption) y_w5; clear y_w5
  (try go_wp2_with fail)
  refine hK.out _ _ ?_ (fun hHeld => ?_)
  · (try dsimp only); (repeat' (with_reducible first | assumption | refine Ext.drew ?_ | refine Ext.drewN ?_ _ | exact Ext.refl _))
  clear hK K
  (try simp only [Act.put]); (try simp only [List.setIfInBounds_toArray]); (try simp only [List.set_cons_succ]); (try simp only [List.set_cons_zero])
  refine htakeV (i := 17) (v := ?_) (some 38) rfl rfl (by kernel_rfl) (by kernel_rfl) (by kernel_rfl) (fun _ _ _ h => h) (Or.inl ⟨by rfl, ?_⟩) (by assumption) ?_; rotate_left; (focus (intro w hSw; (try dsimp only at hSw); go_simp; (try with_reducible rfl))); (try simp only [Act.put]); (try simp only [List.setIfInBounds_toArray]); (try simp only [List.set_cons_succ]); (try simp only [List.set_cons_zero])
  refine htakeV (i := 18) (v := ?_) (some 4) rfl rfl (by kernel_rfl) (by kernel_rfl) (by kernel_rfl) (fun _ _ _ h => h) (Or.inl ⟨by rfl, ?_⟩) (by assumption) ?_; rotate_left; (focus (intro w hSw; (try dsimp only at hSw); go_simp; (try with_reducible rfl))); (try simp only [Act.put]); (try simp only [List.setIfInBounds_toArray]); (try simp only [List.set_cons_succ]); (try simp only [List.set_cons_zero])
  refine wpAnyH_done (by kernel_rfl) ?_ _
  go_wp2_with fail
  go_ret
  exact ⟨rfl, X_W.out.trans (by assumption)⟩
end Go.Proofs.Ytnljefglidhnjaa

