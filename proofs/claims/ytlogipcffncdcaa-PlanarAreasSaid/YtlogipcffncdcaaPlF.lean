/-
  The walks of awake and of the laws PlanarCross and PlanarOn: each answers true.
-/
import Derived.Test.YtlogipcffncdcaaPlE
import Derived.Test.YtlogipcffncdcaaExt
import Derived.Deep.RegionHeld3
import Derived.IntWalk
namespace Go.Proofs.Ytlogipcffncdcaa
open Go.RowKit
theorem htakeP {P : Program} {ops : Array Oper} {Q : Exit → Act → World → Prop} {md : Region.Mode} {S : World → Prop} {i : Nat} {oi : Oper} {v : Value} {fuel : Nat} {listed : Array Bool} {a : Act} {w : World} (d : Option Tmp) (hi : ops[i]? = some oi) (hd : oi.dst = d)
    (hs : Region.noSelect ops = true) (hf : Region.free md ops listed i = true) (hr : (Region.ready md ops listed).contains i = true)
    (hQ : ∀ c a w, Q (.panic c) (a.put d v) w → Q (.panic c) a w) (hy : YieldsIf P ops S oi v a) (hS : S w)
    (h : wpAnyH P md ops Q S fuel (listed.setIfInBounds i true) (a.put d v) w) : wpAnyH P md ops Q S (fuel + 1) listed a w := by
  subst hd
  exact wpAnyH_take hi hs hf hr hQ hy hS h

theorem sgn_size (r : Int) : -1 ≤ sgn r ∧ sgn r ≤ 1 := by unfold sgn; split <;> (try split) <;> omega
set_option maxHeartbeats 4000000 in
theorem planar_split (x y u v a b c d r s : Int) (t : Bool) (ht : t = decide (sgn r * sgn s < 0)) (h1 : PCross x y u v a b r) (h2 : PCross x y u v c d s) (w : World) :
    Calls Try.prog 38 #[.func (.func 39) #[.agg #[.int .i64 x, .int .i64 y, .int .i64 u, .int .i64 v]] #[], .agg #[.int .i64 a, .int .i64 b, .int .i64 c, .int .i64 d]] w fun e w' => e = .returned (.bool t) ∧ Ext w w' := by
  have c1 := Lib.hid fun w => seg_side x y u v a b r h1 w
  have c2 := Lib.hid fun w => seg_side x y u v c d s h2 w
  have z1 := sgn_size r
  have z2 := sgn_size s
  generalize sgn r = p at *
  generalize sgn s = q at *
  have m := mul_in (a := p) (b := q) (k := 1) (m := 1) (by omega) (by omega) (by omega) (by omega)
  have e1 : IntKind.i64.wrap (p * q) = p * q := IntWalk.i64_in _ (by omega)
  have e2 := ht.symm
  clear h1 h2 z1 z2 m ht
  go_enter Try.func38, Try.ntmps38
  go_wp2_with fail
  refine wp_world fun W h_W => ?_
  have q0_W : W.cell? ⟨w.heap.size, 0, none⟩ = some (.int .i64 a) := by rw [h_W]; go_simp
  have u0_W : ∀ w', Ext W w' → w'.cell? ⟨w.heap.size, 0, none⟩ = some (.int .i64 a) := fun _ h => h.keep q0_W
  have q1_W : W.cell? ⟨w.heap.size, 1, none⟩ = some (.int .i64 b) := by rw [h_W]; go_simp
  have u1_W : ∀ w', Ext W w' → w'.cell? ⟨w.heap.size, 1, none⟩ = some (.int .i64 b) := fun _ h => h.keep q1_W
  have q2_W : W.cell? ⟨w.heap.size, 2, none⟩ = some (.int .i64 c) := by rw [h_W]; go_simp
  have u2_W : ∀ w', Ext W w' → w'.cell? ⟨w.heap.size, 2, none⟩ = some (.int .i64 c) := fun _ h => h.keep q2_W
  have q3_W : W.cell? ⟨w.heap.size, 3, none⟩ = some (.int .i64 d) := by rw [h_W]; go_simp
  have u3_W : ∀ w', Ext W w' → w'.cell? ⟨w.heap.size, 3, none⟩ = some (.int .i64 d) := fun _ h => h.keep q3_W
  have X_W := Lib.hid (show Ext w W by rw [h_W]; exact (by (repeat' (with_reducible first | refine Ext.drew ?_ | refine Ext.drewN ?_ _ | refine Ext.alloc ?_ _ | exact Ext.refl _ | fail | (refine Ext.setCell ?_ ?_ _; rotate_left; (focus ((try simp); try omega)))))))
  clear h_W
  refine wp_region_held_drew (S := fun w' => Ext W w') (by kernel_rfl) (by (try dsimp only); (repeat' (with_reducible first | assumption | refine Ext.drew ?_ | refine Ext.drewN ?_ _ | exact Ext.refl _))) (fun hHeld => ?_)
  refine htakeP (i := 0) (v := ?_) (some 5) rfl rfl (by kernel_rfl) (by kernel_rfl) (by kernel_rfl) (fun _ _ _ h => h) (Or.inl ⟨by rfl, ?_⟩) (by assumption) ?_; rotate_left; (focus (intro w hSw; (try dsimp only at hSw); go_simp; (try with_reducible rfl))); (try simp only [Act.put, List.setIfInBounds_toArray]); (try dsimp only [List.set_cons_succ, List.set_cons_zero])
  refine htakeP (i := 1) (v := ?_) (some 6) rfl rfl (by kernel_rfl) (by kernel_rfl) (by kernel_rfl) (fun _ _ _ h => h) (Or.inl ⟨by rfl, ?_⟩) (by assumption) ?_; rotate_left; (focus (intro w hSw; (try dsimp only at hSw); go_simp; (try with_reducible rfl))); (try simp only [Act.put, List.setIfInBounds_toArray]); (try dsimp only [List.set_cons_succ, List.set_cons_zero])
  refine htakeP (i := 2) (v := ?_) (some 7) rfl rfl (by kernel_rfl) (by kernel_rfl) (by kernel_rfl) (fun _ _ _ h => h) (Or.inl ⟨by rfl, ?_⟩) (by assumption) ?_; rotate_left; (focus (intro w hSw; (try dsimp only at hSw); go_simp; (try with_reducible rfl))); (try simp only [Act.put, List.setIfInBounds_toArray]); (try dsimp only [List.set_cons_succ, List.set_cons_zero])
  refine htakeP (i := 4) (v := ?_) (some 9) rfl rfl (by kernel_rfl) (by kernel_rfl) (by kernel_rfl) (fun _ _ _ h => h) (Or.inl ⟨by rfl, ?_⟩) (by assumption) ?_; rotate_left; (focus (intro w hSw; (try dsimp only at hSw); go_simp; (try with_reducible rfl))); (try simp only [Act.put, List.setIfInBounds_toArray]); (try dsimp only [List.set_cons_succ, List.set_cons_zero])
  refine htakeP (i := 5) (v := ?_) (some 10) rfl rfl (by kernel_rfl) (by kernel_rfl) (by kernel_rfl) (fun _ _ _ h => h) (Or.inl ⟨by rfl, ?_⟩) (by assumption) ?_; rotate_left; (focus (intro w hSw; (try dsimp only at hSw); go_simp; (try with_reducible rfl))); (try simp only [Act.put, List.setIfInBounds_toArray]); (try dsimp only [List.set_cons_succ, List.set_cons_zero])
  refine htakeP (i := 6) (v := ?_) (some 11) rfl rfl (by kernel_rfl) (by kernel_rfl) (by kernel_rfl) (fun _ _ _ h => h) (Or.inl ⟨by rfl, ?_⟩) (by assumption) ?_; rotate_left; (focus (intro w hSw; (try dsimp only at hSw); go_simp; (try with_reducible rfl))); (try simp only [Act.put, List.setIfInBounds_toArray]); (try dsimp only [List.set_cons_succ, List.set_cons_zero])
  refine wpAnyH_ready (rs := [3]) (by kernel_rfl) (by simp) ?_
  refine AllReadyH.cons rfl (fun K hK => ?_) AllReadyH.nil
  go_simp
  refine (c1.out _).mono ?_; rintro e w1 ⟨rfl, y_w1⟩; have x_w1 := Ext.trans (show Ext W _ by assumption) y_w1; clear y_w1
  (try go_wp2_with fail)
  refine hK.out _ _ ?_ (fun hHeld => ?_)
  · (try dsimp only); (repeat' (with_reducible first | assumption | refine Ext.drew ?_ | refine Ext.drewN ?_ _ | exact Ext.refl _))
  clear hK K
  (try simp only [Act.put, List.setIfInBounds_toArray]); (try dsimp only [List.set_cons_succ, List.set_cons_zero])
  refine wpAnyH_ready (rs := [7]) (by kernel_rfl) (by simp) ?_
  refine AllReadyH.cons rfl (fun K hK => ?_) AllReadyH.nil
  go_simp
  refine (c2.out _).mono ?_; rintro e w2 ⟨rfl, y_w2⟩; have x_w2 := Ext.trans (show Ext W _ by assumption) y_w2; clear y_w2
  (try go_wp2_with fail)
  refine hK.out _ _ ?_ (fun hHeld => ?_)
  · (try dsimp only); (repeat' (with_reducible first | assumption | refine Ext.drew ?_ | refine Ext.drewN ?_ _ | exact Ext.refl _))
  clear hK K
  (try simp only [Act.put, List.setIfInBounds_toArray]); (try dsimp only [List.set_cons_succ, List.set_cons_zero])
  refine htakeP (i := 8) (v := ?_) (some 13) rfl rfl (by kernel_rfl) (by kernel_rfl) (by kernel_rfl) (fun _ _ _ h => h) (Or.inl ⟨by rfl, ?_⟩) (by assumption) ?_; rotate_left; (focus (intro w hSw; (try dsimp only at hSw); go_simp; (try with_reducible rfl))); (try simp only [Act.put, List.setIfInBounds_toArray]); (try dsimp only [List.set_cons_succ, List.set_cons_zero])
  refine htakeP (i := 9) (v := ?_) (some 14) rfl rfl (by kernel_rfl) (by kernel_rfl) (by kernel_rfl) (fun _ _ _ h => h) (Or.inl ⟨by rfl, ?_⟩) (by assumption) ?_; rotate_left; (focus (intro w hSw; (try dsimp only at hSw); go_simp; (try with_reducible rfl))); (try simp only [Act.put, List.setIfInBounds_toArray]); (try dsimp only [List.set_cons_succ, List.set_cons_zero])
  refine htakeP (i := 10) (v := ?_) (some 4) rfl rfl (by kernel_rfl) (by kernel_rfl) (by kernel_rfl) (fun _ _ _ h => h) (Or.inl ⟨by rfl, ?_⟩) (by assumption) ?_; rotate_left; (focus (intro w hSw; (try dsimp only at hSw); go_simp; (try with_reducible rfl))); (try simp only [Act.put, List.setIfInBounds_toArray]); (try dsimp only [List.set_cons_succ, List.set_cons_zero])
  refine wpAnyH_done (by kernel_rfl) ?_ _
  go_wp2_with fail
  go_ret
  exact ⟨rfl, X_W.out.trans (by assumption)⟩
set_option maxHeartbeats 4000000 in
theorem meet_one (w : World) : Calls Try.prog 26 #[.agg #[.int .i64 0, .int .i64 0, .int .i64 2, .int .i64 2], .agg #[.int .i64 0, .int .i64 2, .int .i64 2, .int .i64 0]] w fun e w' => e = .returned (.int .i64 1) ∧ Ext w w' := by
  have v1 := Lib.hid fun w => planar_Valid 0 0 true (by decide) w
  have v2 := Lib.hid fun w => planar_Valid 2 2 true (by decide) w
  have v3 := Lib.hid fun w => planar_Valid 0 2 true (by decide) w
  have v4 := Lib.hid fun w => planar_Valid 2 0 true (by decide) w
  have s1 := Lib.hid fun w => planar_split 0 0 2 2 0 2 2 0 4 (-4) true (by decide) (.inl (by decide)) (.inl (by decide)) w
  have s2 := Lib.hid fun w => planar_split 0 2 2 0 0 0 2 2 (-4) 4 true (by decide) (.inl (by decide)) (.inl (by decide)) w
  go_enter Try.func26, Try.ntmps26
  go_wp2_with fail
  refine (v1.out _).mono ?_; rintro e w1 ⟨rfl, x_w1⟩
  obtain ⟨k_w1, f_w1⟩ := bcell x_w1
  have s_w1 := x_w1.size; (try simp at s_w1)
  have z0_w1 : w.heap.size < w1.heap.size := by omega
  have z1_w1 : w.heap.size + 1 < w1.heap.size := by omega
  have q0_w1 : w1.cell? ⟨w.heap.size, 0, none⟩ = some (.int .i64 0) := by rw [k_w1 _ _ (by first | omega | (simp; done) | (simp; omega))]; go_simp
  have q1_w1 : w1.cell? ⟨w.heap.size, 1, none⟩ = some (.int .i64 0) := by rw [k_w1 _ _ (by first | omega | (simp; done) | (simp; omega))]; go_simp
  have q2_w1 : w1.cell? ⟨w.heap.size, 2, none⟩ = some (.int .i64 2) := by rw [k_w1 _ _ (by first | omega | (simp; done) | (simp; omega))]; go_simp
  have q3_w1 : w1.cell? ⟨w.heap.size, 3, none⟩ = some (.int .i64 2) := by rw [k_w1 _ _ (by first | omega | (simp; done) | (simp; omega))]; go_simp
  have q4_w1 : w1.cell? ⟨w.heap.size + 1, 0, none⟩ = some (.int .i64 0) := by rw [k_w1 _ _ (by first | omega | (simp; done) | (simp; omega))]; go_simp
  have q5_w1 : w1.cell? ⟨w.heap.size + 1, 1, none⟩ = some (.int .i64 2) := by rw [k_w1 _ _ (by first | omega | (simp; done) | (simp; omega))]; go_simp
  have q6_w1 : w1.cell? ⟨w.heap.size + 1, 2, none⟩ = some (.int .i64 2) := by rw [k_w1 _ _ (by first | omega | (simp; done) | (simp; omega))]; go_simp
  have q7_w1 : w1.cell? ⟨w.heap.size + 1, 3, none⟩ = some (.int .i64 0) := by rw [k_w1 _ _ (by first | omega | (simp; done) | (simp; omega))]; go_simp
  have X_w1 := Lib.hid (show Ext w w1 from Ext.trans (by (repeat' (with_reducible first | refine Ext.drew ?_ | refine Ext.drewN ?_ _ | refine Ext.alloc ?_ _ | exact Ext.refl _ | fail | (refine Ext.setCell ?_ ?_ _; rotate_left; (focus ((try simp); try omega)))))) x_w1)
  clear x_w1 s_w1
  go_wp2_with fail
  refine (v2.out _).mono ?_; rintro e w2 ⟨rfl, x_w2⟩
  obtain ⟨k_w2, f_w2⟩ := bcell x_w2
  have s_w2 := x_w2.size; (try simp at s_w2)
  have z0_w2 : w.heap.size < w2.heap.size := by omega
  have z1_w2 : w.heap.size + 1 < w2.heap.size := by omega
  have q0_w2 : w2.cell? ⟨w.heap.size, 0, none⟩ = some (.int .i64 0) := by rw [k_w2 _ _ (by first | omega | (simp; done) | (simp; omega))]; go_simp
  have q1_w2 : w2.cell? ⟨w.heap.size, 1, none⟩ = some (.int .i64 0) := by rw [k_w2 _ _ (by first | omega | (simp; done) | (simp; omega))]; go_simp
  have q2_w2 : w2.cell? ⟨w.heap.size, 2, none⟩ = some (.int .i64 2) := by rw [k_w2 _ _ (by first | omega | (simp; done) | (simp; omega))]; go_simp
  have q3_w2 : w2.cell? ⟨w.heap.size, 3, none⟩ = some (.int .i64 2) := by rw [k_w2 _ _ (by first | omega | (simp; done) | (simp; omega))]; go_simp
  have q4_w2 : w2.cell? ⟨w.heap.size + 1, 0, none⟩ = some (.int .i64 0) := by rw [k_w2 _ _ (by first | omega | (simp; done) | (simp; omega))]; go_simp
  have q5_w2 : w2.cell? ⟨w.heap.size + 1, 1, none⟩ = some (.int .i64 2) := by rw [k_w2 _ _ (by first | omega | (simp; done) | (simp; omega))]; go_simp
  have q6_w2 : w2.cell? ⟨w.heap.size + 1, 2, none⟩ = some (.int .i64 2) := by rw [k_w2 _ _ (by first | omega | (simp; done) | (simp; omega))]; go_simp
  have q7_w2 : w2.cell? ⟨w.heap.size + 1, 3, none⟩ = some (.int .i64 0) := by rw [k_w2 _ _ (by first | omega | (simp; done) | (simp; omega))]; go_simp
  have X_w2 := Lib.hid (show Ext w w2 from Ext.trans (by (repeat' (with_reducible first | refine Ext.drew ?_ | refine Ext.drewN ?_ _ | refine Ext.alloc ?_ _ | exact Ext.refl _ | exact X_w1.out | (refine Ext.setCell ?_ ?_ _; rotate_left; (focus ((try simp); try omega)))))) x_w2)
  clear x_w2 s_w2
  go_wp2_with fail
  refine (v3.out _).mono ?_; rintro e w3 ⟨rfl, x_w3⟩
  obtain ⟨k_w3, f_w3⟩ := bcell x_w3
  have s_w3 := x_w3.size; (try simp at s_w3)
  have z0_w3 : w.heap.size < w3.heap.size := by omega
  have z1_w3 : w.heap.size + 1 < w3.heap.size := by omega
  have q0_w3 : w3.cell? ⟨w.heap.size, 0, none⟩ = some (.int .i64 0) := by rw [k_w3 _ _ (by first | omega | (simp; done) | (simp; omega))]; go_simp
  have q1_w3 : w3.cell? ⟨w.heap.size, 1, none⟩ = some (.int .i64 0) := by rw [k_w3 _ _ (by first | omega | (simp; done) | (simp; omega))]; go_simp
  have q2_w3 : w3.cell? ⟨w.heap.size, 2, none⟩ = some (.int .i64 2) := by rw [k_w3 _ _ (by first | omega | (simp; done) | (simp; omega))]; go_simp
  have q3_w3 : w3.cell? ⟨w.heap.size, 3, none⟩ = some (.int .i64 2) := by rw [k_w3 _ _ (by first | omega | (simp; done) | (simp; omega))]; go_simp
  have q4_w3 : w3.cell? ⟨w.heap.size + 1, 0, none⟩ = some (.int .i64 0) := by rw [k_w3 _ _ (by first | omega | (simp; done) | (simp; omega))]; go_simp
  have q5_w3 : w3.cell? ⟨w.heap.size + 1, 1, none⟩ = some (.int .i64 2) := by rw [k_w3 _ _ (by first | omega | (simp; done) | (simp; omega))]; go_simp
  have q6_w3 : w3.cell? ⟨w.heap.size + 1, 2, none⟩ = some (.int .i64 2) := by rw [k_w3 _ _ (by first | omega | (simp; done) | (simp; omega))]; go_simp
  have q7_w3 : w3.cell? ⟨w.heap.size + 1, 3, none⟩ = some (.int .i64 0) := by rw [k_w3 _ _ (by first | omega | (simp; done) | (simp; omega))]; go_simp
  have X_w3 := Lib.hid (show Ext w w3 from Ext.trans (by (repeat' (with_reducible first | refine Ext.drew ?_ | refine Ext.drewN ?_ _ | refine Ext.alloc ?_ _ | exact Ext.refl _ | exact X_w2.out | exact X_w1.out | (refine Ext.setCell ?_ ?_ _; rotate_left; (focus ((try simp); try omega)))))) x_w3)
  clear x_w3 s_w3
  go_wp2_with fail
  refine (v4.out _).mono ?_; rintro e w4 ⟨rfl, x_w4⟩
  obtain ⟨k_w4, f_w4⟩ := bcell x_w4
  have s_w4 := x_w4.size; (try simp at s_w4)
  have z0_w4 : w.heap.size < w4.heap.size := by omega
  have z1_w4 : w.heap.size + 1 < w4.heap.size := by omega
  have q0_w4 : w4.cell? ⟨w.heap.size, 0, none⟩ = some (.int .i64 0) := by rw [k_w4 _ _ (by first | omega | (simp; done) | (simp; omega))]; go_simp
  have q1_w4 : w4.cell? ⟨w.heap.size, 1, none⟩ = some (.int .i64 0) := by rw [k_w4 _ _ (by first | omega | (simp; done) | (simp; omega))]; go_simp
  have q2_w4 : w4.cell? ⟨w.heap.size, 2, none⟩ = some (.int .i64 2) := by rw [k_w4 _ _ (by first | omega | (simp; done) | (simp; omega))]; go_simp
  have q3_w4 : w4.cell? ⟨w.heap.size, 3, none⟩ = some (.int .i64 2) := by rw [k_w4 _ _ (by first | omega | (simp; done) | (simp; omega))]; go_simp
  have q4_w4 : w4.cell? ⟨w.heap.size + 1, 0, none⟩ = some (.int .i64 0) := by rw [k_w4 _ _ (by first | omega | (simp; done) | (simp; omega))]; go_simp
  have q5_w4 : w4.cell? ⟨w.heap.size + 1, 1, none⟩ = some (.int .i64 2) := by rw [k_w4 _ _ (by first | omega | (simp; done) | (simp; omega))]; go_simp
  have q6_w4 : w4.cell? ⟨w.heap.size + 1, 2, none⟩ = some (.int .i64 2) := by rw [k_w4 _ _ (by first | omega | (simp; done) | (simp; omega))]; go_simp
  have q7_w4 : w4.cell? ⟨w.heap.size + 1, 3, none⟩ = some (.int .i64 0) := by rw [k_w4 _ _ (by first | omega | (simp; done) | (simp; omega))]; go_simp
  have X_w4 := Lib.hid (show Ext w w4 from Ext.trans (by (repeat' (with_reducible first | refine Ext.drew ?_ | refine Ext.drewN ?_ _ | refine Ext.alloc ?_ _ | exact Ext.refl _ | exact X_w3.out | exact X_w2.out | exact X_w1.out | (refine Ext.setCell ?_ ?_ _; rotate_left; (focus ((try simp); try omega)))))) x_w4)
  clear x_w4 s_w4
  go_wp2_with fail
  refine (s1.out _).mono ?_; rintro e w5 ⟨rfl, x_w5⟩
  obtain ⟨k_w5, f_w5⟩ := bcell x_w5
  have s_w5 := x_w5.size; (try simp at s_w5)
  have z0_w5 : w.heap.size < w5.heap.size := by omega
  have z1_w5 : w.heap.size + 1 < w5.heap.size := by omega
  have q0_w5 : w5.cell? ⟨w.heap.size, 0, none⟩ = some (.int .i64 0) := by rw [k_w5 _ _ (by first | omega | (simp; done) | (simp; omega))]; go_simp
  have q1_w5 : w5.cell? ⟨w.heap.size, 1, none⟩ = some (.int .i64 0) := by rw [k_w5 _ _ (by first | omega | (simp; done) | (simp; omega))]; go_simp
  have q2_w5 : w5.cell? ⟨w.heap.size, 2, none⟩ = some (.int .i64 2) := by rw [k_w5 _ _ (by first | omega | (simp; done) | (simp; omega))]; go_simp
  have q3_w5 : w5.cell? ⟨w.heap.size, 3, none⟩ = some (.int .i64 2) := by rw [k_w5 _ _ (by first | omega | (simp; done) | (simp; omega))]; go_simp
  have q4_w5 : w5.cell? ⟨w.heap.size + 1, 0, none⟩ = some (.int .i64 0) := by rw [k_w5 _ _ (by first | omega | (simp; done) | (simp; omega))]; go_simp
  have q5_w5 : w5.cell? ⟨w.heap.size + 1, 1, none⟩ = some (.int .i64 2) := by rw [k_w5 _ _ (by first | omega | (simp; done) | (simp; omega))]; go_simp
  have q6_w5 : w5.cell? ⟨w.heap.size + 1, 2, none⟩ = some (.int .i64 2) := by rw [k_w5 _ _ (by first | omega | (simp; done) | (simp; omega))]; go_simp
  have q7_w5 : w5.cell? ⟨w.heap.size + 1, 3, none⟩ = some (.int .i64 0) := by rw [k_w5 _ _ (by first | omega | (simp; done) | (simp; omega))]; go_simp
  have X_w5 := Lib.hid (show Ext w w5 from Ext.trans (by (repeat' (with_reducible first | refine Ext.drew ?_ | refine Ext.drewN ?_ _ | refine Ext.alloc ?_ _ | exact Ext.refl _ | exact X_w4.out | exact X_w3.out | exact X_w2.out | exact X_w1.out | (refine Ext.setCell ?_ ?_ _; rotate_left; (focus ((try simp); try omega)))))) x_w5)
  clear x_w5 s_w5
  go_wp2_with fail
  refine (s2.out _).mono ?_; rintro e w6 ⟨rfl, x_w6⟩
  obtain ⟨k_w6, f_w6⟩ := bcell x_w6
  have X_w6 := Lib.hid (show Ext w w6 from Ext.trans (by (repeat' (with_reducible first | refine Ext.drew ?_ | refine Ext.drewN ?_ _ | refine Ext.alloc ?_ _ | exact Ext.refl _ | exact X_w5.out | exact X_w4.out | exact X_w3.out | exact X_w2.out | exact X_w1.out | (refine Ext.setCell ?_ ?_ _; rotate_left; (focus ((try simp); try omega)))))) x_w6)
  clear x_w6
  go_wp2_with fail
  go_ret
  exact ⟨rfl, by (repeat' (with_reducible first | refine Ext.drew ?_ | refine Ext.drewN ?_ _ | refine Ext.alloc ?_ _ | exact Ext.refl _ | exact X_w6.out | exact X_w5.out | exact X_w4.out | exact X_w3.out | exact X_w2.out | exact X_w1.out | (refine Ext.setCell ?_ ?_ _; rotate_left; (focus ((try simp); try omega)))))⟩
set_option maxHeartbeats 4000000 in
theorem law_awake5 (w : World) : Calls Try.prog 23 #[] w fun e w' => e = .returned (.bool true) ∧ Ext w w' := by
  have c1 := Lib.hid fun w => planar_Cross 0 0 2 0 0 3 6 (.inl (by decide)) w
  have c2 := Lib.hid fun w => planar_On 0 0 2 2 1 1 true (by unfold POn; decide) w
  have c3 := Lib.hid meet_one
  go_enter Try.func23, Try.ntmps23
  go_wp2_with fail
  refine (c1.out _).mono ?_; rintro e w1 ⟨rfl, x_w1⟩
  obtain ⟨k_w1, f_w1⟩ := bcell x_w1
  have s_w1 := x_w1.size; (try simp at s_w1)
  have z0_w1 : w.heap.size < w1.heap.size := by omega
  have z1_w1 : w.heap.size + 1 < w1.heap.size := by omega
  have q0_w1 : w1.cell? ⟨w.heap.size, 0, none⟩ = some (.int .i64 0) := by rw [k_w1 _ _ (by first | omega | (simp; done) | (simp; omega))]; go_simp
  have q1_w1 : w1.cell? ⟨w.heap.size, 1, none⟩ = some (.int .i64 0) := by rw [k_w1 _ _ (by first | omega | (simp; done) | (simp; omega))]; go_simp
  have q2_w1 : w1.cell? ⟨w.heap.size, 2, none⟩ = some (.int .i64 2) := by rw [k_w1 _ _ (by first | omega | (simp; done) | (simp; omega))]; go_simp
  have q3_w1 : w1.cell? ⟨w.heap.size, 3, none⟩ = some (.int .i64 2) := by rw [k_w1 _ _ (by first | omega | (simp; done) | (simp; omega))]; go_simp
  have q4_w1 : w1.cell? ⟨w.heap.size + 1, 0, none⟩ = some (.int .i64 0) := by rw [k_w1 _ _ (by first | omega | (simp; done) | (simp; omega))]; go_simp
  have q5_w1 : w1.cell? ⟨w.heap.size + 1, 1, none⟩ = some (.int .i64 2) := by rw [k_w1 _ _ (by first | omega | (simp; done) | (simp; omega))]; go_simp
  have q6_w1 : w1.cell? ⟨w.heap.size + 1, 2, none⟩ = some (.int .i64 2) := by rw [k_w1 _ _ (by first | omega | (simp; done) | (simp; omega))]; go_simp
  have q7_w1 : w1.cell? ⟨w.heap.size + 1, 3, none⟩ = some (.int .i64 0) := by rw [k_w1 _ _ (by first | omega | (simp; done) | (simp; omega))]; go_simp
  have X_w1 := Lib.hid (show Ext w w1 from Ext.trans (by (repeat' (with_reducible first | refine Ext.drew ?_ | refine Ext.drewN ?_ _ | refine Ext.alloc ?_ _ | exact Ext.refl _ | fail | (refine Ext.setCell ?_ ?_ _; rotate_left; (focus ((try simp); try omega)))))) x_w1)
  clear x_w1 s_w1
  go_wp2_with fail
  refine (c2.out _).mono ?_; rintro e w2 ⟨rfl, x_w2⟩
  obtain ⟨k_w2, f_w2⟩ := bcell x_w2
  have s_w2 := x_w2.size; (try simp at s_w2)
  have z0_w2 : w.heap.size < w2.heap.size := by omega
  have z1_w2 : w.heap.size + 1 < w2.heap.size := by omega
  have q0_w2 : w2.cell? ⟨w.heap.size, 0, none⟩ = some (.int .i64 0) := by rw [k_w2 _ _ (by first | omega | (simp; done) | (simp; omega))]; go_simp
  have q1_w2 : w2.cell? ⟨w.heap.size, 1, none⟩ = some (.int .i64 0) := by rw [k_w2 _ _ (by first | omega | (simp; done) | (simp; omega))]; go_simp
  have q2_w2 : w2.cell? ⟨w.heap.size, 2, none⟩ = some (.int .i64 2) := by rw [k_w2 _ _ (by first | omega | (simp; done) | (simp; omega))]; go_simp
  have q3_w2 : w2.cell? ⟨w.heap.size, 3, none⟩ = some (.int .i64 2) := by rw [k_w2 _ _ (by first | omega | (simp; done) | (simp; omega))]; go_simp
  have q4_w2 : w2.cell? ⟨w.heap.size + 1, 0, none⟩ = some (.int .i64 0) := by rw [k_w2 _ _ (by first | omega | (simp; done) | (simp; omega))]; go_simp
  have q5_w2 : w2.cell? ⟨w.heap.size + 1, 1, none⟩ = some (.int .i64 2) := by rw [k_w2 _ _ (by first | omega | (simp; done) | (simp; omega))]; go_simp
  have q6_w2 : w2.cell? ⟨w.heap.size + 1, 2, none⟩ = some (.int .i64 2) := by rw [k_w2 _ _ (by first | omega | (simp; done) | (simp; omega))]; go_simp
  have q7_w2 : w2.cell? ⟨w.heap.size + 1, 3, none⟩ = some (.int .i64 0) := by rw [k_w2 _ _ (by first | omega | (simp; done) | (simp; omega))]; go_simp
  have X_w2 := Lib.hid (show Ext w w2 from Ext.trans (by (repeat' (with_reducible first | refine Ext.drew ?_ | refine Ext.drewN ?_ _ | refine Ext.alloc ?_ _ | exact Ext.refl _ | exact X_w1.out | (refine Ext.setCell ?_ ?_ _; rotate_left; (focus ((try simp); try omega)))))) x_w2)
  clear x_w2 s_w2
  go_wp2_with fail
  refine (c3.out _).mono ?_; rintro e w3 ⟨rfl, x_w3⟩
  obtain ⟨k_w3, f_w3⟩ := bcell x_w3
  have X_w3 := Lib.hid (show Ext w w3 from Ext.trans (by (repeat' (with_reducible first | refine Ext.drew ?_ | refine Ext.drewN ?_ _ | refine Ext.alloc ?_ _ | exact Ext.refl _ | exact X_w2.out | exact X_w1.out | (refine Ext.setCell ?_ ?_ _; rotate_left; (focus ((try simp); try omega)))))) x_w3)
  clear x_w3
  go_wp2_with fail
  go_ret
  exact ⟨rfl, by (repeat' (with_reducible first | refine Ext.drew ?_ | refine Ext.drewN ?_ _ | refine Ext.alloc ?_ _ | exact Ext.refl _ | exact X_w3.out | exact X_w2.out | exact X_w1.out | (refine Ext.setCell ?_ ?_ _; rotate_left; (focus ((try simp); try omega)))))⟩
set_option maxHeartbeats 8000000 in
theorem law_PlanarCross (x y u v a b : Int) (w : World) : Calls Try.prog 3 #[.agg #[.int .i64 x, .int .i64 y], .agg #[.int .i64 u, .int .i64 v], .agg #[.int .i64 a, .int .i64 b]] w fun e w' => e = .returned (.bool true) ∧ Ext w w' := by
  have ka := Lib.hid law_awake5
  obtain ⟨t, ht⟩ : ∃ t, t = decide (In2 16777216 x y) := ⟨_, rfl⟩
  obtain ⟨r, hr⟩ := pcross_ex x y u v a b
  obtain ⟨d, hd⟩ := pdist_ex x y u v
  have c1 := Lib.hid fun w => planar_Valid x y t ht w
  have c2 := Lib.hid fun w => additiveref05_Valid x y t ht w
  have c3 := Lib.hid fun w => planar_Cross x y u v a b r hr w
  have c4 := Lib.hid fun w => additiveref05_Cross x y u v a b r hr w
  have c5 := Lib.hid fun w => planar_Turn x y u v a b r hr w
  have c6 := Lib.hid fun w => additiveref05_Turn x y u v a b r hr w
  have c7 := Lib.hid fun w => planar_Dist2 x y u v d hd w
  have c8 := Lib.hid fun w => additiveref05_Dist2 x y u v d hd w
  have e1 : (t == t) = true := by simp
  have e2 := beq_t (rfl : r = r)
  have e3 := beq_t (rfl : sgn r = sgn r)
  have e4 := beq_t (rfl : d = d)
  clear ht hr hd
  go_enter Try.func3, Try.ntmps3
  go_wp2_with fail
  refine wp_world fun W h_W => ?_
  have q0_W : W.cell? ⟨w.heap.size, 0, none⟩ = some (.int .i64 x) := by rw [h_W]; go_simp
  have u0_W : ∀ w', Ext W w' → w'.cell? ⟨w.heap.size, 0, none⟩ = some (.int .i64 x) := fun _ h => h.keep q0_W
  have q1_W : W.cell? ⟨w.heap.size, 1, none⟩ = some (.int .i64 y) := by rw [h_W]; go_simp
  have u1_W : ∀ w', Ext W w' → w'.cell? ⟨w.heap.size, 1, none⟩ = some (.int .i64 y) := fun _ h => h.keep q1_W
  have q2_W : W.cell? ⟨w.heap.size + 1, 0, none⟩ = some (.int .i64 u) := by rw [h_W]; go_simp
  have u2_W : ∀ w', Ext W w' → w'.cell? ⟨w.heap.size + 1, 0, none⟩ = some (.int .i64 u) := fun _ h => h.keep q2_W
  have q3_W : W.cell? ⟨w.heap.size + 1, 1, none⟩ = some (.int .i64 v) := by rw [h_W]; go_simp
  have u3_W : ∀ w', Ext W w' → w'.cell? ⟨w.heap.size + 1, 1, none⟩ = some (.int .i64 v) := fun _ h => h.keep q3_W
  have q4_W : W.cell? ⟨w.heap.size + 2, 0, none⟩ = some (.int .i64 a) := by rw [h_W]; go_simp
  have u4_W : ∀ w', Ext W w' → w'.cell? ⟨w.heap.size + 2, 0, none⟩ = some (.int .i64 a) := fun _ h => h.keep q4_W
  have q5_W : W.cell? ⟨w.heap.size + 2, 1, none⟩ = some (.int .i64 b) := by rw [h_W]; go_simp
  have u5_W : ∀ w', Ext W w' → w'.cell? ⟨w.heap.size + 2, 1, none⟩ = some (.int .i64 b) := fun _ h => h.keep q5_W
  have X_W := Lib.hid (show Ext w W by rw [h_W]; exact (by (repeat' (with_reducible first | refine Ext.drew ?_ | refine Ext.drewN ?_ _ | refine Ext.alloc ?_ _ | exact Ext.refl _ | fail | (refine Ext.setCell ?_ ?_ _; rotate_left; (focus ((try simp); try omega)))))))
  clear h_W
  refine wp_region_held_drew (S := fun w' => Ext W w') (by kernel_rfl) (by (try dsimp only); (repeat' (with_reducible first | assumption | refine Ext.drew ?_ | refine Ext.drewN ?_ _ | exact Ext.refl _))) (fun hHeld => ?_)
  refine htakeP (i := 0) (v := ?_) (some 7) rfl rfl (by kernel_rfl) (by kernel_rfl) (by kernel_rfl) (fun _ _ _ h => h) (Or.inl ⟨by rfl, ?_⟩) (by assumption) ?_; rotate_left; (focus (intro w hSw; (try dsimp only at hSw); go_simp; (try with_reducible rfl))); (try simp only [Act.put, List.setIfInBounds_toArray]); (try dsimp only [List.set_cons_succ, List.set_cons_zero])
  refine htakeP (i := 2) (v := ?_) (some 9) rfl rfl (by kernel_rfl) (by kernel_rfl) (by kernel_rfl) (fun _ _ _ h => h) (Or.inl ⟨by rfl, ?_⟩) (by assumption) ?_; rotate_left; (focus (intro w hSw; (try dsimp only at hSw); go_simp; (try with_reducible rfl))); (try simp only [Act.put, List.setIfInBounds_toArray]); (try dsimp only [List.set_cons_succ, List.set_cons_zero])
  refine wpAnyH_ready (rs := [1]) (by kernel_rfl) (by simp) ?_
  refine AllReadyH.cons rfl (fun K hK => ?_) AllReadyH.nil
  go_simp
  refine (c1.out _).mono ?_; rintro e w1 ⟨rfl, y_w1⟩; have x_w1 := Ext.trans (show Ext W _ by assumption) y_w1; clear y_w1
  (try go_wp2_with fail)
  refine hK.out _ _ ?_ (fun hHeld => ?_)
  · (try dsimp only); (repeat' (with_reducible first | assumption | refine Ext.drew ?_ | refine Ext.drewN ?_ _ | exact Ext.refl _))
  clear hK K
  (try simp only [Act.put, List.setIfInBounds_toArray]); (try dsimp only [List.set_cons_succ, List.set_cons_zero])
  refine wpAnyH_ready (rs := [3]) (by kernel_rfl) (by simp) ?_
  refine AllReadyH.cons rfl (fun K hK => ?_) AllReadyH.nil
  go_simp
  refine (c2.out _).mono ?_; rintro e w2 ⟨rfl, y_w2⟩; have x_w2 := Ext.trans (show Ext W _ by assumption) y_w2; clear y_w2
  (try go_wp2_with fail)
  refine hK.out _ _ ?_ (fun hHeld => ?_)
  · (try dsimp only); (repeat' (with_reducible first | assumption | refine Ext.drew ?_ | refine Ext.drewN ?_ _ | exact Ext.refl _))
  clear hK K
  (try simp only [Act.put, List.setIfInBounds_toArray]); (try dsimp only [List.set_cons_succ, List.set_cons_zero])
  refine htakeP (i := 4) (v := ?_) (some 11) rfl rfl (by kernel_rfl) (by kernel_rfl) (by kernel_rfl) (fun _ _ _ h => h) (Or.inl ⟨by rfl, ?_⟩) (by assumption) ?_; rotate_left; (focus (intro w hSw; (try dsimp only at hSw); go_simp; (try with_reducible rfl))); (try simp only [Act.put, List.setIfInBounds_toArray]); (try dsimp only [List.set_cons_succ, List.set_cons_zero])
  refine htakeP (i := 5) (v := ?_) (some 12) rfl rfl (by kernel_rfl) (by kernel_rfl) (by kernel_rfl) (fun _ _ _ h => h) (Or.inl ⟨by rfl, ?_⟩) (by assumption) ?_; rotate_left; (focus (intro w hSw; (try dsimp only at hSw); go_simp; (try with_reducible rfl))); (try simp only [Act.put, List.setIfInBounds_toArray]); (try dsimp only [List.set_cons_succ, List.set_cons_zero])
  refine htakeP (i := 6) (v := ?_) (some 13) rfl rfl (by kernel_rfl) (by kernel_rfl) (by kernel_rfl) (fun _ _ _ h => h) (Or.inl ⟨by rfl, ?_⟩) (by assumption) ?_; rotate_left; (focus (intro w hSw; (try dsimp only at hSw); go_simp; (try with_reducible rfl))); (try simp only [Act.put, List.setIfInBounds_toArray]); (try dsimp only [List.set_cons_succ, List.set_cons_zero])
  refine htakeP (i := 7) (v := ?_) (some 14) rfl rfl (by kernel_rfl) (by kernel_rfl) (by kernel_rfl) (fun _ _ _ h => h) (Or.inl ⟨by rfl, ?_⟩) (by assumption) ?_; rotate_left; (focus (intro w hSw; (try dsimp only at hSw); go_simp; (try with_reducible rfl))); (try simp only [Act.put, List.setIfInBounds_toArray]); (try dsimp only [List.set_cons_succ, List.set_cons_zero])
  refine htakeP (i := 8) (v := ?_) (some 15) rfl rfl (by kernel_rfl) (by kernel_rfl) (by kernel_rfl) (fun _ _ _ h => h) (Or.inl ⟨by rfl, ?_⟩) (by assumption) ?_; rotate_left; (focus (intro w hSw; (try dsimp only at hSw); go_simp; (try with_reducible rfl))); (try simp only [Act.put, List.setIfInBounds_toArray]); (try dsimp only [List.set_cons_succ, List.set_cons_zero])
  refine htakeP (i := 10) (v := ?_) (some 17) rfl rfl (by kernel_rfl) (by kernel_rfl) (by kernel_rfl) (fun _ _ _ h => h) (Or.inl ⟨by rfl, ?_⟩) (by assumption) ?_; rotate_left; (focus (intro w hSw; (try dsimp only at hSw); go_simp; (try with_reducible rfl))); (try simp only [Act.put, List.setIfInBounds_toArray]); (try dsimp only [List.set_cons_succ, List.set_cons_zero])
  refine htakeP (i := 11) (v := ?_) (some 18) rfl rfl (by kernel_rfl) (by kernel_rfl) (by kernel_rfl) (fun _ _ _ h => h) (Or.inl ⟨by rfl, ?_⟩) (by assumption) ?_; rotate_left; (focus (intro w hSw; (try dsimp only at hSw); go_simp; (try with_reducible rfl))); (try simp only [Act.put, List.setIfInBounds_toArray]); (try dsimp only [List.set_cons_succ, List.set_cons_zero])
  refine htakeP (i := 12) (v := ?_) (some 19) rfl rfl (by kernel_rfl) (by kernel_rfl) (by kernel_rfl) (fun _ _ _ h => h) (Or.inl ⟨by rfl, ?_⟩) (by assumption) ?_; rotate_left; (focus (intro w hSw; (try dsimp only at hSw); go_simp; (try with_reducible rfl))); (try simp only [Act.put, List.setIfInBounds_toArray]); (try dsimp only [List.set_cons_succ, List.set_cons_zero])
  refine wpAnyH_ready (rs := [9]) (by kernel_rfl) (by simp) ?_
  refine AllReadyH.cons rfl (fun K hK => ?_) AllReadyH.nil
  go_simp
  refine (c3.out _).mono ?_; rintro e w3 ⟨rfl, y_w3⟩; have x_w3 := Ext.trans (show Ext W _ by assumption) y_w3; clear y_w3
  (try go_wp2_with fail)
  refine hK.out _ _ ?_ (fun hHeld => ?_)
  · (try dsimp only); (repeat' (with_reducible first | assumption | refine Ext.drew ?_ | refine Ext.drewN ?_ _ | exact Ext.refl _))
  clear hK K
  (try simp only [Act.put, List.setIfInBounds_toArray]); (try dsimp only [List.set_cons_succ, List.set_cons_zero])
  refine wpAnyH_ready (rs := [13]) (by kernel_rfl) (by simp) ?_
  refine AllReadyH.cons rfl (fun K hK => ?_) AllReadyH.nil
  go_simp
  refine (c4.out _).mono ?_; rintro e w4 ⟨rfl, y_w4⟩; have x_w4 := Ext.trans (show Ext W _ by assumption) y_w4; clear y_w4
  (try go_wp2_with fail)
  refine hK.out _ _ ?_ (fun hHeld => ?_)
  · (try dsimp only); (repeat' (with_reducible first | assumption | refine Ext.drew ?_ | refine Ext.drewN ?_ _ | exact Ext.refl _))
  clear hK K
  (try simp only [Act.put, List.setIfInBounds_toArray]); (try dsimp only [List.set_cons_succ, List.set_cons_zero])
  refine htakeP (i := 14) (v := ?_) (some 21) rfl rfl (by kernel_rfl) (by kernel_rfl) (by kernel_rfl) (fun _ _ _ h => h) (Or.inl ⟨by rfl, ?_⟩) (by assumption) ?_; rotate_left; (focus (intro w hSw; (try dsimp only at hSw); go_simp; (try with_reducible rfl))); (try simp only [Act.put, List.setIfInBounds_toArray]); (try dsimp only [List.set_cons_succ, List.set_cons_zero])
  refine htakeP (i := 15) (v := ?_) (some 22) rfl rfl (by kernel_rfl) (by kernel_rfl) (by kernel_rfl) (fun _ _ _ h => h) (Or.inl ⟨by rfl, ?_⟩) (by assumption) ?_; rotate_left; (focus (intro w hSw; (try dsimp only at hSw); go_simp; (try with_reducible rfl))); (try simp only [Act.put, List.setIfInBounds_toArray]); (try dsimp only [List.set_cons_succ, List.set_cons_zero])
  refine htakeP (i := 16) (v := ?_) (some 23) rfl rfl (by kernel_rfl) (by kernel_rfl) (by kernel_rfl) (fun _ _ _ h => h) (Or.inl ⟨by rfl, ?_⟩) (by assumption) ?_; rotate_left; (focus (intro w hSw; (try dsimp only at hSw); go_simp; (try with_reducible rfl))); (try simp only [Act.put, List.setIfInBounds_toArray]); (try dsimp only [List.set_cons_succ, List.set_cons_zero])
  refine htakeP (i := 17) (v := ?_) (some 24) rfl rfl (by kernel_rfl) (by kernel_rfl) (by kernel_rfl) (fun _ _ _ h => h) (Or.inl ⟨by rfl, ?_⟩) (by assumption) ?_; rotate_left; (focus (intro w hSw; (try dsimp only at hSw); go_simp; (try with_reducible rfl))); (try simp only [Act.put, List.setIfInBounds_toArray]); (try dsimp only [List.set_cons_succ, List.set_cons_zero])
  refine htakeP (i := 18) (v := ?_) (some 25) rfl rfl (by kernel_rfl) (by kernel_rfl) (by kernel_rfl) (fun _ _ _ h => h) (Or.inl ⟨by rfl, ?_⟩) (by assumption) ?_; rotate_left; (focus (intro w hSw; (try dsimp only at hSw); go_simp; (try with_reducible rfl))); (try simp only [Act.put, List.setIfInBounds_toArray]); (try dsimp only [List.set_cons_succ, List.set_cons_zero])
  refine htakeP (i := 19) (v := ?_) (some 26) rfl rfl (by kernel_rfl) (by kernel_rfl) (by kernel_rfl) (fun _ _ _ h => h) (Or.inl ⟨by rfl, ?_⟩) (by assumption) ?_; rotate_left; (focus (intro w hSw; (try dsimp only at hSw); go_simp; (try with_reducible rfl))); (try simp only [Act.put, List.setIfInBounds_toArray]); (try dsimp only [List.set_cons_succ, List.set_cons_zero])
  refine htakeP (i := 21) (v := ?_) (some 28) rfl rfl (by kernel_rfl) (by kernel_rfl) (by kernel_rfl) (fun _ _ _ h => h) (Or.inl ⟨by rfl, ?_⟩) (by assumption) ?_; rotate_left; (focus (intro w hSw; (try dsimp only at hSw); go_simp; (try with_reducible rfl))); (try simp only [Act.put, List.setIfInBounds_toArray]); (try dsimp only [List.set_cons_succ, List.set_cons_zero])
  refine htakeP (i := 22) (v := ?_) (some 29) rfl rfl (by kernel_rfl) (by kernel_rfl) (by kernel_rfl) (fun _ _ _ h => h) (Or.inl ⟨by rfl, ?_⟩) (by assumption) ?_; rotate_left; (focus (intro w hSw; (try dsimp only at hSw); go_simp; (try with_reducible rfl))); (try simp only [Act.put, List.setIfInBounds_toArray]); (try dsimp only [List.set_cons_succ, List.set_cons_zero])
  refine htakeP (i := 23) (v := ?_) (some 30) rfl rfl (by kernel_rfl) (by kernel_rfl) (by kernel_rfl) (fun _ _ _ h => h) (Or.inl ⟨by rfl, ?_⟩) (by assumption) ?_; rotate_left; (focus (intro w hSw; (try dsimp only at hSw); go_simp; (try with_reducible rfl))); (try simp only [Act.put, List.setIfInBounds_toArray]); (try dsimp only [List.set_cons_succ, List.set_cons_zero])
  refine wpAnyH_ready (rs := [20]) (by kernel_rfl) (by simp) ?_
  refine AllReadyH.cons rfl (fun K hK => ?_) AllReadyH.nil
  go_simp
  refine (c5.out _).mono ?_; rintro e w5 ⟨rfl, y_w5⟩; have x_w5 := Ext.trans (show Ext W _ by assumption) y_w5; clear y_w5
  (try go_wp2_with fail)
  refine hK.out _ _ ?_ (fun hHeld => ?_)
  · (try dsimp only); (repeat' (with_reducible first | assumption | refine Ext.drew ?_ | refine Ext.drewN ?_ _ | exact Ext.refl _))
  clear hK K
  (try simp only [Act.put, List.setIfInBounds_toArray]); (try dsimp only [List.set_cons_succ, List.set_cons_zero])
  refine wpAnyH_ready (rs := [24]) (by kernel_rfl) (by simp) ?_
  refine AllReadyH.cons rfl (fun K hK => ?_) AllReadyH.nil
  go_simp
  refine (c6.out _).mono ?_; rintro e w6 ⟨rfl, y_w6⟩; have x_w6 := Ext.trans (show Ext W _ by assumption) y_w6; clear y_w6
  (try go_wp2_with fail)
  refine hK.out _ _ ?_ (fun hHeld => ?_)
  · (try dsimp only); (repeat' (with_reducible first | assumption | refine Ext.drew ?_ | refine Ext.drewN ?_ _ | exact Ext.refl _))
  clear hK K
  (try simp only [Act.put, List.setIfInBounds_toArray]); (try dsimp only [List.set_cons_succ, List.set_cons_zero])
  refine htakeP (i := 25) (v := ?_) (some 32) rfl rfl (by kernel_rfl) (by kernel_rfl) (by kernel_rfl) (fun _ _ _ h => h) (Or.inl ⟨by rfl, ?_⟩) (by assumption) ?_; rotate_left; (focus (intro w hSw; (try dsimp only at hSw); go_simp; (try with_reducible rfl))); (try simp only [Act.put, List.setIfInBounds_toArray]); (try dsimp only [List.set_cons_succ, List.set_cons_zero])
  refine htakeP (i := 26) (v := ?_) (some 33) rfl rfl (by kernel_rfl) (by kernel_rfl) (by kernel_rfl) (fun _ _ _ h => h) (Or.inl ⟨by rfl, ?_⟩) (by assumption) ?_; rotate_left; (focus (intro w hSw; (try dsimp only at hSw); go_simp; (try with_reducible rfl))); (try simp only [Act.put, List.setIfInBounds_toArray]); (try dsimp only [List.set_cons_succ, List.set_cons_zero])
  refine htakeP (i := 27) (v := ?_) (some 34) rfl rfl (by kernel_rfl) (by kernel_rfl) (by kernel_rfl) (fun _ _ _ h => h) (Or.inl ⟨by rfl, ?_⟩) (by assumption) ?_; rotate_left; (focus (intro w hSw; (try dsimp only at hSw); go_simp; (try with_reducible rfl))); (try simp only [Act.put, List.setIfInBounds_toArray]); (try dsimp only [List.set_cons_succ, List.set_cons_zero])
  refine htakeP (i := 28) (v := ?_) (some 35) rfl rfl (by kernel_rfl) (by kernel_rfl) (by kernel_rfl) (fun _ _ _ h => h) (Or.inl ⟨by rfl, ?_⟩) (by assumption) ?_; rotate_left; (focus (intro w hSw; (try dsimp only at hSw); go_simp; (try with_reducible rfl))); (try simp only [Act.put, List.setIfInBounds_toArray]); (try dsimp only [List.set_cons_succ, List.set_cons_zero])
  refine htakeP (i := 29) (v := ?_) (some 36) rfl rfl (by kernel_rfl) (by kernel_rfl) (by kernel_rfl) (fun _ _ _ h => h) (Or.inl ⟨by rfl, ?_⟩) (by assumption) ?_; rotate_left; (focus (intro w hSw; (try dsimp only at hSw); go_simp; (try with_reducible rfl))); (try simp only [Act.put, List.setIfInBounds_toArray]); (try dsimp only [List.set_cons_succ, List.set_cons_zero])
  refine htakeP (i := 31) (v := ?_) (some 38) rfl rfl (by kernel_rfl) (by kernel_rfl) (by kernel_rfl) (fun _ _ _ h => h) (Or.inl ⟨by rfl, ?_⟩) (by assumption) ?_; rotate_left; (focus (intro w hSw; (try dsimp only at hSw); go_simp; (try with_reducible rfl))); (try simp only [Act.put, List.setIfInBounds_toArray]); (try dsimp only [List.set_cons_succ, List.set_cons_zero])
  refine htakeP (i := 32) (v := ?_) (some 39) rfl rfl (by kernel_rfl) (by kernel_rfl) (by kernel_rfl) (fun _ _ _ h => h) (Or.inl ⟨by rfl, ?_⟩) (by assumption) ?_; rotate_left; (focus (intro w hSw; (try dsimp only at hSw); go_simp; (try with_reducible rfl))); (try simp only [Act.put, List.setIfInBounds_toArray]); (try dsimp only [List.set_cons_succ, List.set_cons_zero])
  refine wpAnyH_ready (rs := [30]) (by kernel_rfl) (by simp) ?_
  refine AllReadyH.cons rfl (fun K hK => ?_) AllReadyH.nil
  go_simp
  refine (c7.out _).mono ?_; rintro e w7 ⟨rfl, y_w7⟩; have x_w7 := Ext.trans (show Ext W _ by assumption) y_w7; clear y_w7
  (try go_wp2_with fail)
  refine hK.out _ _ ?_ (fun hHeld => ?_)
  · (try dsimp only); (repeat' (with_reducible first | assumption | refine Ext.drew ?_ | refine Ext.drewN ?_ _ | exact Ext.refl _))
  clear hK K
  (try simp only [Act.put, List.setIfInBounds_toArray]); (try dsimp only [List.set_cons_succ, List.set_cons_zero])
  refine wpAnyH_ready (rs := [33]) (by kernel_rfl) (by simp) ?_
  refine AllReadyH.cons rfl (fun K hK => ?_) AllReadyH.nil
  go_simp
  refine (c8.out _).mono ?_; rintro e w8 ⟨rfl, y_w8⟩; have x_w8 := Ext.trans (show Ext W _ by assumption) y_w8; clear y_w8
  (try go_wp2_with fail)
  refine hK.out _ _ ?_ (fun hHeld => ?_)
  · (try dsimp only); (repeat' (with_reducible first | assumption | refine Ext.drew ?_ | refine Ext.drewN ?_ _ | exact Ext.refl _))
  clear hK K
  (try simp only [Act.put, List.setIfInBounds_toArray]); (try dsimp only [List.set_cons_succ, List.set_cons_zero])
  refine htakeP (i := 34) (v := ?_) (some 41) rfl rfl (by kernel_rfl) (by kernel_rfl) (by kernel_rfl) (fun _ _ _ h => h) (Or.inl ⟨by rfl, ?_⟩) (by assumption) ?_; rotate_left; (focus (intro w hSw; (try dsimp only at hSw); go_simp; (try with_reducible rfl))); (try simp only [Act.put, List.setIfInBounds_toArray]); (try dsimp only [List.set_cons_succ, List.set_cons_zero])
  refine htakeP (i := 35) (v := ?_) (some 42) rfl rfl (by kernel_rfl) (by kernel_rfl) (by kernel_rfl) (fun _ _ _ h => h) (Or.inl ⟨by rfl, ?_⟩) (by assumption) ?_; rotate_left; (focus (intro w hSw; (try dsimp only at hSw); go_simp; (try with_reducible rfl))); (try simp only [Act.put, List.setIfInBounds_toArray]); (try dsimp only [List.set_cons_succ, List.set_cons_zero])
  refine htakeP (i := 36) (v := ?_) (some 43) rfl rfl (by kernel_rfl) (by kernel_rfl) (by kernel_rfl) (fun _ _ _ h => h) (Or.inl ⟨by rfl, ?_⟩) (by assumption) ?_; rotate_left; (focus (intro w hSw; (try dsimp only at hSw); go_simp; (try with_reducible rfl))); (try simp only [Act.put, List.setIfInBounds_toArray]); (try dsimp only [List.set_cons_succ, List.set_cons_zero])
  refine wpAnyH_ready (rs := [37]) (by kernel_rfl) (by simp) ?_
  refine AllReadyH.cons rfl (fun K hK => ?_) AllReadyH.nil
  go_simp
  refine (ka.out _).mono ?_; rintro e w9 ⟨rfl, y_w9⟩; have x_w9 := Ext.trans (show Ext W _ by assumption) y_w9; clear y_w9
  (try go_wp2_with fail)
  refine hK.out _ _ ?_ (fun hHeld => ?_)
  · (try dsimp only); (repeat' (with_reducible first | assumption | refine Ext.drew ?_ | refine Ext.drewN ?_ _ | exact Ext.refl _))
  clear hK K
  (try simp only [Act.put, List.setIfInBounds_toArray]); (try dsimp only [List.set_cons_succ, List.set_cons_zero])
  refine htakeP (i := 38) (v := ?_) (some 45) rfl rfl (by kernel_rfl) (by kernel_rfl) (by kernel_rfl) (fun _ _ _ h => h) (Or.inl ⟨by rfl, ?_⟩) (by assumption) ?_; rotate_left; (focus (intro w hSw; (try dsimp only at hSw); go_simp; (try with_reducible rfl))); (try simp only [Act.put, List.setIfInBounds_toArray]); (try dsimp only [List.set_cons_succ, List.set_cons_zero])
  refine htakeP (i := 39) (v := ?_) (some 6) rfl rfl (by kernel_rfl) (by kernel_rfl) (by kernel_rfl) (fun _ _ _ h => h) (Or.inl ⟨by rfl, ?_⟩) (by assumption) ?_; rotate_left; (focus (intro w hSw; (try dsimp only at hSw); go_simp; (try with_reducible rfl))); (try simp only [Act.put, List.setIfInBounds_toArray]); (try dsimp only [List.set_cons_succ, List.set_cons_zero])
  refine wpAnyH_done (by kernel_rfl) ?_ _
  go_wp2_with fail
  go_ret
  exact ⟨rfl, X_W.out.trans (by assumption)⟩
set_option maxHeartbeats 4000000 in
theorem law_PlanarOn (a b x y u v : Int) (w : World) : Calls Try.prog 4 #[.agg #[.int .i64 a, .int .i64 b], .agg #[.int .i64 x, .int .i64 y, .int .i64 u, .int .i64 v]] w fun e w' => e = .returned (.bool true) ∧ Ext w w' := by
  have ka := Lib.hid law_awake5
  obtain ⟨t, ht⟩ : ∃ t, POn x y u v a b t := ⟨_, rfl⟩
  have c1 := Lib.hid fun w => planar_On x y u v a b t ht w
  have c2 := Lib.hid fun w => additiveref05_On x y u v a b t ht w
  have e1 : (t == t) = true := by simp
  clear ht
  go_enter Try.func4, Try.ntmps4
  go_wp2_with fail
  refine wp_world fun W h_W => ?_
  have q0_W : W.cell? ⟨w.heap.size, 0, none⟩ = some (.int .i64 a) := by rw [h_W]; go_simp
  have u0_W : ∀ w', Ext W w' → w'.cell? ⟨w.heap.size, 0, none⟩ = some (.int .i64 a) := fun _ h => h.keep q0_W
  have q1_W : W.cell? ⟨w.heap.size, 1, none⟩ = some (.int .i64 b) := by rw [h_W]; go_simp
  have u1_W : ∀ w', Ext W w' → w'.cell? ⟨w.heap.size, 1, none⟩ = some (.int .i64 b) := fun _ h => h.keep q1_W
  have q2_W : W.cell? ⟨w.heap.size + 1, 0, none⟩ = some (.int .i64 x) := by rw [h_W]; go_simp
  have u2_W : ∀ w', Ext W w' → w'.cell? ⟨w.heap.size + 1, 0, none⟩ = some (.int .i64 x) := fun _ h => h.keep q2_W
  have q3_W : W.cell? ⟨w.heap.size + 1, 1, none⟩ = some (.int .i64 y) := by rw [h_W]; go_simp
  have u3_W : ∀ w', Ext W w' → w'.cell? ⟨w.heap.size + 1, 1, none⟩ = some (.int .i64 y) := fun _ h => h.keep q3_W
  have q4_W : W.cell? ⟨w.heap.size + 1, 2, none⟩ = some (.int .i64 u) := by rw [h_W]; go_simp
  have u4_W : ∀ w', Ext W w' → w'.cell? ⟨w.heap.size + 1, 2, none⟩ = some (.int .i64 u) := fun _ h => h.keep q4_W
  have q5_W : W.cell? ⟨w.heap.size + 1, 3, none⟩ = some (.int .i64 v) := by rw [h_W]; go_simp
  have u5_W : ∀ w', Ext W w' → w'.cell? ⟨w.heap.size + 1, 3, none⟩ = some (.int .i64 v) := fun _ h => h.keep q5_W
  have X_W := Lib.hid (show Ext w W by rw [h_W]; exact (by (repeat' (with_reducible first | refine Ext.drew ?_ | refine Ext.drewN ?_ _ | refine Ext.alloc ?_ _ | exact Ext.refl _ | fail | (refine Ext.setCell ?_ ?_ _; rotate_left; (focus ((try simp); try omega)))))))
  clear h_W
  refine wp_region_held_drew (S := fun w' => Ext W w') (by kernel_rfl) (by (try dsimp only); (repeat' (with_reducible first | assumption | refine Ext.drew ?_ | refine Ext.drewN ?_ _ | exact Ext.refl _))) (fun hHeld => ?_)
  refine htakeP (i := 0) (v := ?_) (some 5) rfl rfl (by kernel_rfl) (by kernel_rfl) (by kernel_rfl) (fun _ _ _ h => h) (Or.inl ⟨by rfl, ?_⟩) (by assumption) ?_; rotate_left; (focus (intro w hSw; (try dsimp only at hSw); go_simp; (try with_reducible rfl))); (try simp only [Act.put, List.setIfInBounds_toArray]); (try dsimp only [List.set_cons_succ, List.set_cons_zero])
  refine htakeP (i := 1) (v := ?_) (some 6) rfl rfl (by kernel_rfl) (by kernel_rfl) (by kernel_rfl) (fun _ _ _ h => h) (Or.inl ⟨by rfl, ?_⟩) (by assumption) ?_; rotate_left; (focus (intro w hSw; (try dsimp only at hSw); go_simp; (try with_reducible rfl))); (try simp only [Act.put, List.setIfInBounds_toArray]); (try dsimp only [List.set_cons_succ, List.set_cons_zero])
  refine htakeP (i := 3) (v := ?_) (some 8) rfl rfl (by kernel_rfl) (by kernel_rfl) (by kernel_rfl) (fun _ _ _ h => h) (Or.inl ⟨by rfl, ?_⟩) (by assumption) ?_; rotate_left; (focus (intro w hSw; (try dsimp only at hSw); go_simp; (try with_reducible rfl))); (try simp only [Act.put, List.setIfInBounds_toArray]); (try dsimp only [List.set_cons_succ, List.set_cons_zero])
  refine htakeP (i := 4) (v := ?_) (some 9) rfl rfl (by kernel_rfl) (by kernel_rfl) (by kernel_rfl) (fun _ _ _ h => h) (Or.inl ⟨by rfl, ?_⟩) (by assumption) ?_; rotate_left; (focus (intro w hSw; (try dsimp only at hSw); go_simp; (try with_reducible rfl))); (try simp only [Act.put, List.setIfInBounds_toArray]); (try dsimp only [List.set_cons_succ, List.set_cons_zero])
  refine wpAnyH_ready (rs := [2]) (by kernel_rfl) (by simp) ?_
  refine AllReadyH.cons rfl (fun K hK => ?_) AllReadyH.nil
  go_simp
  refine (c1.out _).mono ?_; rintro e w1 ⟨rfl, y_w1⟩; have x_w1 := Ext.trans (show Ext W _ by assumption) y_w1; clear y_w1
  (try go_wp2_with fail)
  refine hK.out _ _ ?_ (fun hHeld => ?_)
  · (try dsimp only); (repeat' (with_reducible first | assumption | refine Ext.drew ?_ | refine Ext.drewN ?_ _ | exact Ext.refl _))
  clear hK K
  (try simp only [Act.put, List.setIfInBounds_toArray]); (try dsimp only [List.set_cons_succ, List.set_cons_zero])
  refine wpAnyH_ready (rs := [5]) (by kernel_rfl) (by simp) ?_
  refine AllReadyH.cons rfl (fun K hK => ?_) AllReadyH.nil
  go_simp
  refine (c2.out _).mono ?_; rintro e w2 ⟨rfl, y_w2⟩; have x_w2 := Ext.trans (show Ext W _ by assumption) y_w2; clear y_w2
  (try go_wp2_with fail)
  refine hK.out _ _ ?_ (fun hHeld => ?_)
  · (try dsimp only); (repeat' (with_reducible first | assumption | refine Ext.drew ?_ | refine Ext.drewN ?_ _ | exact Ext.refl _))
  clear hK K
  (try simp only [Act.put, List.setIfInBounds_toArray]); (try dsimp only [List.set_cons_succ, List.set_cons_zero])
  refine htakeP (i := 6) (v := ?_) (some 11) rfl rfl (by kernel_rfl) (by kernel_rfl) (by kernel_rfl) (fun _ _ _ h => h) (Or.inl ⟨by rfl, ?_⟩) (by assumption) ?_; rotate_left; (focus (intro w hSw; (try dsimp only at hSw); go_simp; (try with_reducible rfl))); (try simp only [Act.put, List.setIfInBounds_toArray]); (try dsimp only [List.set_cons_succ, List.set_cons_zero])
  refine htakeP (i := 7) (v := ?_) (some 12) rfl rfl (by kernel_rfl) (by kernel_rfl) (by kernel_rfl) (fun _ _ _ h => h) (Or.inl ⟨by rfl, ?_⟩) (by assumption) ?_; rotate_left; (focus (intro w hSw; (try dsimp only at hSw); go_simp; (try with_reducible rfl))); (try simp only [Act.put, List.setIfInBounds_toArray]); (try dsimp only [List.set_cons_succ, List.set_cons_zero])
  refine wpAnyH_ready (rs := [8]) (by kernel_rfl) (by simp) ?_
  refine AllReadyH.cons rfl (fun K hK => ?_) AllReadyH.nil
  go_simp
  refine (ka.out _).mono ?_; rintro e w3 ⟨rfl, y_w3⟩; have x_w3 := Ext.trans (show Ext W _ by assumption) y_w3; clear y_w3
  (try go_wp2_with fail)
  refine hK.out _ _ ?_ (fun hHeld => ?_)
  · (try dsimp only); (repeat' (with_reducible first | assumption | refine Ext.drew ?_ | refine Ext.drewN ?_ _ | exact Ext.refl _))
  clear hK K
  (try simp only [Act.put, List.setIfInBounds_toArray]); (try dsimp only [List.set_cons_succ, List.set_cons_zero])
  refine htakeP (i := 9) (v := ?_) (some 14) rfl rfl (by kernel_rfl) (by kernel_rfl) (by kernel_rfl) (fun _ _ _ h => h) (Or.inl ⟨by rfl, ?_⟩) (by assumption) ?_; rotate_left; (focus (intro w hSw; (try dsimp only at hSw); go_simp; (try with_reducible rfl))); (try simp only [Act.put, List.setIfInBounds_toArray]); (try dsimp only [List.set_cons_succ, List.set_cons_zero])
  refine htakeP (i := 10) (v := ?_) (some 4) rfl rfl (by kernel_rfl) (by kernel_rfl) (by kernel_rfl) (fun _ _ _ h => h) (Or.inl ⟨by rfl, ?_⟩) (by assumption) ?_; rotate_left; (focus (intro w hSw; (try dsimp only at hSw); go_simp; (try with_reducible rfl))); (try simp only [Act.put, List.setIfInBounds_toArray]); (try dsimp only [List.set_cons_succ, List.set_cons_zero])
  refine wpAnyH_done (by kernel_rfl) ?_ _
  go_wp2_with fail
  go_ret
  exact ⟨rfl, X_W.out.trans (by assumption)⟩
end Go.Proofs.Ytlogipcffncdcaa

