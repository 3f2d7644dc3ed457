/-
  Contracts of package thermal and of the document's own answers: Step and Top.
-/
import Derived.Test.YthgmacoljkljfaaThA
import Derived.Deep.RegionHeld3
namespace Go.Proofs.Ythgmacoljkljfaa
open Go.RowKit
theorem htakeT {P : Program} {ops : Array Oper} {Q : Exit → Act → World → Prop} {md : Region.Mode} {S : World → Prop} {i : Nat} {oi : Oper} {v : Value} {fuel : Nat} {listed : Array Bool} {a : Act} {w : World} (d : Option Tmp) (hi : ops[i]? = some oi) (hd : oi.dst = d)
    (hs : Region.noSelect ops = true) (hf : Region.free md ops listed i = true) (hr : (Region.ready md ops listed).contains i = true)
    (hQ : ∀ c a w, Q (.panic c) (a.put d v) w → Q (.panic c) a w) (hy : YieldsIf P ops S oi v a) (hS : S w)
    (h : wpAnyH P md ops Q S fuel (listed.setIfInBounds i true) (a.put d v) w) : wpAnyH P md ops Q S (fuel + 1) listed a w := by
  subst hd
  exact wpAnyH_take hi hs hf hr hQ hy hS h
set_option maxHeartbeats 4000000 in
theorem thermal_HStep_ok (p l m a t d t' d' r : Int) (hv : HVal p l m a) (ht : t' = max (-1073741824) (min t 1073741824)) (hd : d' = max 0 (min d 255)) (hr : r = t' + (d' * p - l * (t' - a)) / m) (w : World) :
    Calls Try.prog 33 #[.agg #[.int .i64 p, .int .i64 l, .int .i64 m, .int .i64 a], .int .i64 t, .int .i64 d] w fun e w' => e = .returned (.int .i64 r) ∧ Ext w w' := by
  have c1 := Lib.hid fun w => thermal_HValid p l m a true (by rw [decide_eq_true hv]) w
  have c2 := Lib.hid fun w => num_Clamp t (-1073741824) 1073741824 w
  have c3 := Lib.hid fun w => num_Clamp d 0 255 w
  rw [← ht] at c2; rw [← hd] at c3
  obtain ⟨p0, p1, l0, l1, m0, m1, a0, a1⟩ := hv
  have t0 : -1073741824 ≤ t' := by omega
  have t1 : t' ≤ 1073741824 := by omega
  have d0 : 0 ≤ d' := by omega
  have d1 : d' ≤ 255 := by omega
  have e1 := mul_in (a := d') (b := p) (k := 255) (m := 1048576) (by omega) (by omega) (by omega) (by omega)
  have e2 := mul_in (a := l) (b := t' - a) (k := 65536) (m := 1074141824) (by omega) (by omega) (by omega) (by omega)
  have c4 := Lib.hid fun w => num_FloorP (d' * p - l * (t' - a)) m (by omega) (by omega) (by omega) (by omega) w
  have w0 : IntKind.i64.wrap (d' * p) = d' * p := IntWalk.i64_in _ (by omega)
  have w1' : IntKind.i64.wrap (t' - a) = t' - a := IntWalk.i64_in _ (by omega)
  have w2' : IntKind.i64.wrap (l * (t' - a)) = l * (t' - a) := IntWalk.i64_in _ (by omega)
  have w3' : IntKind.i64.wrap (d' * p - l * (t' - a)) = d' * p - l * (t' - a) := IntWalk.i64_in _ (by omega)
  obtain ⟨q, hq⟩ : ∃ q, q = (d' * p - l * (t' - a)) / m := ⟨_, rfl⟩
  have s1 := ediv_size (d' * p - l * (t' - a)) m (by omega)
  rw [← hq] at c4 hr s1
  have w4' : IntKind.i64.wrap (t' + q) = t' + q := IntWalk.i64_in _ (by
    rcases Int.lt_or_le (d' * p - l * (t' - a)) 0 with h | h
    · have := s1.2 h; omega
    · have := s1.1 h; omega)
  subst hr
  clear s1 hq ht hd
  clear e1 e2
  go_enter Try.func33, Try.ntmps33
  go_wp2_with fail
  refine (c1.out _).mono ?_; rintro e w1 ⟨rfl, x_w1⟩
  obtain ⟨k_w1, f_w1⟩ := bcell x_w1
  have s_w1 := x_w1.size; (try simp at s_w1)
  have z0_w1 : w.heap.size < w1.heap.size := by omega
  have q0_w1 : w1.cell? ⟨w.heap.size, 0, none⟩ = some (.int .i64 p) := by rw [k_w1 _ _ (by first | omega | (simp; done) | (simp; omega))]; go_simp
  have q1_w1 : w1.cell? ⟨w.heap.size, 1, none⟩ = some (.int .i64 l) := by rw [k_w1 _ _ (by first | omega | (simp; done) | (simp; omega))]; go_simp
  have q2_w1 : w1.cell? ⟨w.heap.size, 2, none⟩ = some (.int .i64 m) := by rw [k_w1 _ _ (by first | omega | (simp; done) | (simp; omega))]; go_simp
  have q3_w1 : w1.cell? ⟨w.heap.size, 3, none⟩ = some (.int .i64 a) := by rw [k_w1 _ _ (by first | omega | (simp; done) | (simp; omega))]; go_simp
  have X_w1 := Lib.hid (show Ext w w1 from Ext.trans (by (repeat' (with_reducible first | refine Ext.drew ?_ | refine Ext.drewN ?_ _ | refine Ext.alloc ?_ _ | exact Ext.refl _ | fail | (refine Ext.setCell ?_ ?_ _; rotate_left; (focus ((try simp); try omega)))))) x_w1)
  clear x_w1 s_w1
  go_wp2_with fail
  refine (c2.out _).mono ?_; rintro e w' ⟨rfl, rfl⟩
  go_wp2_with fail
  refine wp_world fun W h_W => ?_
  have q0_W : W.cell? ⟨w.heap.size, 0, none⟩ = some (.int .i64 p) := by rw [h_W]; go_simp
  have u0_W : ∀ w', Ext W w' → w'.cell? ⟨w.heap.size, 0, none⟩ = some (.int .i64 p) := fun _ h => h.keep q0_W
  have q1_W : W.cell? ⟨w.heap.size, 1, none⟩ = some (.int .i64 l) := by rw [h_W]; go_simp
  have u1_W : ∀ w', Ext W w' → w'.cell? ⟨w.heap.size, 1, none⟩ = some (.int .i64 l) := fun _ h => h.keep q1_W
  have q2_W : W.cell? ⟨w.heap.size, 2, none⟩ = some (.int .i64 m) := by rw [h_W]; go_simp
  have u2_W : ∀ w', Ext W w' → w'.cell? ⟨w.heap.size, 2, none⟩ = some (.int .i64 m) := fun _ h => h.keep q2_W
  have q3_W : W.cell? ⟨w.heap.size, 3, none⟩ = some (.int .i64 a) := by rw [h_W]; go_simp
  have u3_W : ∀ w', Ext W w' → w'.cell? ⟨w.heap.size, 3, none⟩ = some (.int .i64 a) := fun _ h => h.keep q3_W
  have X_W := Lib.hid (show Ext w W by rw [h_W]; exact (by (repeat' (with_reducible first | refine Ext.drew ?_ | refine Ext.drewN ?_ _ | refine Ext.alloc ?_ _ | exact Ext.refl _ | exact X_w1.out | (refine Ext.setCell ?_ ?_ _; rotate_left; (focus ((try simp); try omega)))))))
  have fz0_W : ∀ o, W.frozen? ⟨w.heap.size, o, none⟩ = false := by intro o; rw [h_W]; go_simp
  have z0_W : w.heap.size < W.heap.size := by rw [h_W]; (try simp); try omega
  have uf0_W : ∀ w', Ext W w' → ∀ o, w'.frozen? ⟨w.heap.size, o, none⟩ = false := fun _ h o => by rw [(bcell h).2 _ _ z0_W]; exact fz0_W o
  clear h_W
  refine wp_region_held_drew (S := fun w' => Ext W w') (by kernel_rfl) (by (try dsimp only); (repeat' (with_reducible first | assumption | refine Ext.drew ?_ | refine Ext.drewN ?_ _ | exact Ext.refl _))) (fun hHeld => ?_)
  refine htakeT (i := 0) (v := ?_) (some 16) rfl rfl (by kernel_rfl) (by kernel_rfl) (by kernel_rfl) (fun _ _ _ h => h) (Or.inl ⟨by rfl, ?_⟩) (by assumption) ?_; rotate_left; (focus (intro w hSw; (try dsimp only at hSw); go_simp; (try with_reducible rfl))); (try simp only [Act.put]); (try simp only [List.setIfInBounds_toArray]); (try simp only [List.set_cons_succ]); (try simp only [List.set_cons_zero])
  refine htakeT (i := 2) (v := ?_) (some 18) rfl rfl (by kernel_rfl) (by kernel_rfl) (by kernel_rfl) (fun _ _ _ h => h) (Or.inl ⟨by rfl, ?_⟩) (by assumption) ?_; rotate_left; (focus (intro w hSw; (try dsimp only at hSw); go_simp; (try with_reducible rfl))); (try simp only [Act.put]); (try simp only [List.setIfInBounds_toArray]); (try simp only [List.set_cons_succ]); (try simp only [List.set_cons_zero])
  refine htakeT (i := 3) (v := ?_) (some 19) rfl rfl (by kernel_rfl) (by kernel_rfl) (by kernel_rfl) (fun _ _ _ h => h) (Or.inl ⟨by rfl, ?_⟩) (by assumption) ?_; rotate_left; (focus (intro w hSw; (try dsimp only at hSw); go_simp; (try with_reducible rfl))); (try simp only [Act.put]); (try simp only [List.setIfInBounds_toArray]); (try simp only [List.set_cons_succ]); (try simp only [List.set_cons_zero])
  refine wpAnyH_ready (rs := [1]) (by kernel_rfl) (by simp) ?_
  refine AllReadyH.cons rfl (fun K hK => ?_) AllReadyH.nil
  go_simp
  refine (c3.out _).mono ?_; rintro e w' ⟨rfl, rfl⟩
  (try go_wp2_with fail)
  refine hK.out _ _ ?_ (fun hHeld => ?_)
  · (try dsimp only); (repeat' (with_reducible first | assumption | refine Ext.drew ?_ | refine Ext.drewN ?_ _ | exact Ext.refl _))
  clear hK K
  (try simp only [Act.put]); (try simp only [List.setIfInBounds_toArray]); (try simp only [List.set_cons_succ]); (try simp only [List.set_cons_zero])
  refine htakeT (i := 4) (v := ?_) (some 20) rfl rfl (by kernel_rfl) (by kernel_rfl) (by kernel_rfl) (fun _ _ _ h => h) (Or.inl ⟨by rfl, ?_⟩) (by assumption) ?_; rotate_left; (focus (intro w hSw; (try dsimp only at hSw); go_simp; (try with_reducible rfl))); (try simp only [Act.put]); (try simp only [List.setIfInBounds_toArray]); (try simp only [List.set_cons_succ]); (try simp only [List.set_cons_zero])
  refine htakeT (i := 5) (v := ?_) (some 8) rfl rfl (by kernel_rfl) (by kernel_rfl) (by kernel_rfl) (fun _ _ _ h => h) (Or.inl ⟨by rfl, ?_⟩) (by assumption) ?_; rotate_left; (focus (intro w hSw; (try dsimp only at hSw); go_simp; (try with_reducible rfl))); (try simp only [Act.put]); (try simp only [List.setIfInBounds_toArray]); (try simp only [List.set_cons_succ]); (try simp only [List.set_cons_zero])
  refine wpAnyH_done (by kernel_rfl) ?_ _
  go_wp2_with fail
  refine (c4.out _).mono ?_; rintro e w2 ⟨rfl, x_w2⟩
  go_wp2_with fail
  go_ret
  exact ⟨rfl, (X_W.out.trans (by assumption)).trans x_w2⟩
theorem thermal_HStep (p l m a t d r : Int) (h : HStepIs p l m a t d r) (w : World) :
    Calls Try.prog 33 #[.agg #[.int .i64 p, .int .i64 l, .int .i64 m, .int .i64 a], .int .i64 t, .int .i64 d] w fun e w' => e = .returned (.int .i64 r) ∧ Ext w w' := by
  rcases h with ⟨hv, hr⟩ | ⟨hv, rfl⟩
  · exact thermal_HStep_ok p l m a t d _ _ r hv rfl rfl hr w
  · have c1 := Lib.hid fun w => thermal_HValid p l m a false (by rw [decide_eq_false hv]) w
    clear hv
    go_enter Try.func33, Try.ntmps33
    go_wp2_with fail
    refine (c1.out _).mono ?_; rintro e w1 ⟨rfl, x_w1⟩
    obtain ⟨k_w1, f_w1⟩ := bcell x_w1
    have X_w1 := Lib.hid (show Ext w w1 from Ext.trans (by (repeat' (with_reducible first | refine Ext.drew ?_ | refine Ext.drewN ?_ _ | refine Ext.alloc ?_ _ | exact Ext.refl _ | fail | (refine Ext.setCell ?_ ?_ _; rotate_left; (focus ((try simp); try omega)))))) x_w1)
    clear x_w1
    go_wp2_with fail
    go_ret
    exact ⟨rfl, by (repeat' (with_reducible first | refine Ext.drew ?_ | refine Ext.drewN ?_ _ | refine Ext.alloc ?_ _ | exact Ext.refl _ | exact X_w1.out | (refine Ext.setCell ?_ ?_ _; rotate_left; (focus ((try simp); try omega)))))⟩
theorem thermal_Top (p l m a r : Int) (h : TopIs p l m a r) (w : World) :
    Calls Try.prog 30 #[.agg #[.int .i64 p, .int .i64 l, .int .i64 m, .int .i64 a]] w fun e w' => e = .returned (.int .i64 r) ∧ Ext w w' := by
  rcases h with ⟨hv, hr⟩ | ⟨hv, rfl⟩
  · have c1 := Lib.hid fun w => thermal_HValid p l m a true (by rw [decide_eq_true hv]) w
    obtain ⟨p0, p1, l0, l1, m0, m1, a0, a1⟩ := hv
    have c4 := Lib.hid fun w => num_FloorP (-255 * p) l (by omega) (by omega) (by omega) (by omega) w
    obtain ⟨q, hq⟩ : ∃ q, q = (-255 * p) / l := ⟨_, rfl⟩
    have s1 := ediv_size (-255 * p) l (by omega)
    rw [← hq] at c4 hr s1
    have w3' : IntKind.i64.wrap (-255 * p) = -255 * p := IntWalk.i64_in _ (by omega)
    have w4' : IntKind.i64.wrap (a - q) = a - q := IntWalk.i64_in _ (by
      rcases Int.lt_or_le (-255 * p) 0 with h | h
      · have := s1.2 h; omega
      · have := s1.1 h; omega)
    subst hr
    clear s1 hq
    go_enter Try.func30, Try.ntmps30
    go_wp2_with fail
    refine (c1.out _).mono ?_; rintro e w1 ⟨rfl, x_w1⟩
    obtain ⟨k_w1, f_w1⟩ := bcell x_w1
    have s_w1 := x_w1.size; (try simp at s_w1)
    have z0_w1 : w.heap.size < w1.heap.size := by omega
    have X_w1 := Lib.hid (show Ext w w1 from Ext.trans (by (repeat' (with_reducible first | refine Ext.drew ?_ | refine Ext.drewN ?_ _ | refine Ext.alloc ?_ _ | exact Ext.refl _ | fail | (refine Ext.setCell ?_ ?_ _; rotate_left; (focus ((try simp); try omega)))))) x_w1)
    clear x_w1 s_w1
    go_wp2_with fail
    refine (c4.out _).mono ?_; rintro e w2 ⟨rfl, x_w2⟩
    obtain ⟨k_w2, f_w2⟩ := bcell x_w2
    have X_w2 := Lib.hid (show Ext w w2 from Ext.trans (by (repeat' (with_reducible first | refine Ext.drew ?_ | refine Ext.drewN ?_ _ | refine Ext.alloc ?_ _ | exact Ext.refl _ | exact X_w1.out | (refine Ext.setCell ?_ ?_ _; rotate_left; (focus ((try simp); try omega)))))) x_w2)
    clear x_w2
    go_wp2_with fail
    go_ret
    exact ⟨rfl, by (repeat' (with_reducible first | refine Ext.drew ?_ | refine Ext.drewN ?_ _ | refine Ext.alloc ?_ _ | exact Ext.refl _ | exact X_w2.out | exact X_w1.out | (refine Ext.setCell ?_ ?_ _; rotate_left; (focus ((try simp); try omega)))))⟩
  · have c1 := Lib.hid fun w => thermal_HValid p l m a false (by rw [decide_eq_false hv]) w
    clear hv
    go_enter Try.func30, Try.ntmps30
    go_wp2_with fail
    refine (c1.out _).mono ?_; rintro e w1 ⟨rfl, x_w1⟩
    obtain ⟨k_w1, f_w1⟩ := bcell x_w1
    have X_w1 := Lib.hid (show Ext w w1 from Ext.trans (by (repeat' (with_reducible first | refine Ext.drew ?_ | refine Ext.drewN ?_ _ | refine Ext.alloc ?_ _ | exact Ext.refl _ | fail | (refine Ext.setCell ?_ ?_ _; rotate_left; (focus ((try simp); try omega)))))) x_w1)
    clear x_w1
    go_wp2_with fail
    go_ret
    exact ⟨rfl, by (repeat' (with_reducible first | refine Ext.drew ?_ | refine Ext.drewN ?_ _ | refine Ext.alloc ?_ _ | exact Ext.refl _ | exact X_w1.out | (refine Ext.setCell ?_ ?_ _; rotate_left; (focus ((try simp); try omega)))))⟩
set_option maxHeartbeats 4000000 in
theorem additiveref48_HStep_ok (p l m a t d t' d' r : Int) (hv : HVal p l m a) (ht : t' = max (-1073741824) (min t 1073741824)) (hd : d' = max 0 (min d 255)) (hr : r = t' + (d' * p - l * (t' - a)) / m) (w : World) :
    Calls Try.prog 34 #[.agg #[.int .i64 p, .int .i64 l, .int .i64 m, .int .i64 a], .int .i64 t, .int .i64 d] w fun e w' => e = .returned (.int .i64 r) ∧ Ext w w' := by
  have c1 := Lib.hid fun w => additiveref48_HValid p l m a true (by rw [decide_eq_true hv]) w
  have c2 := Lib.hid fun w => ref_Clamp t (-1073741824) 1073741824 w
  have c3 := Lib.hid fun w => ref_Clamp d 0 255 w
  rw [← ht] at c2; rw [← hd] at c3
  obtain ⟨p0, p1, l0, l1, m0, m1, a0, a1⟩ := hv
  have t0 : -1073741824 ≤ t' := by omega
  have t1 : t' ≤ 1073741824 := by omega
  have d0 : 0 ≤ d' := by omega
  have d1 : d' ≤ 255 := by omega
  have e1 := mul_in (a := d') (b := p) (k := 255) (m := 1048576) (by omega) (by omega) (by omega) (by omega)
  have e2 := mul_in (a := l) (b := t' - a) (k := 65536) (m := 1074141824) (by omega) (by omega) (by omega) (by omega)
  have c4 := Lib.hid fun w => ref_FloorP (d' * p - l * (t' - a)) m (by omega) (by omega) (by omega) (by omega) w
  have w0 : IntKind.i64.wrap (d' * p) = d' * p := IntWalk.i64_in _ (by omega)
  have w1' : IntKind.i64.wrap (t' - a) = t' - a := IntWalk.i64_in _ (by omega)
  have w2' : IntKind.i64.wrap (l * (t' - a)) = l * (t' - a) := IntWalk.i64_in _ (by omega)
  have w3' : IntKind.i64.wrap (d' * p - l * (t' - a)) = d' * p - l * (t' - a) := IntWalk.i64_in _ (by omega)
  obtain ⟨q, hq⟩ : ∃ q, q = (d' * p - l * (t' - a)) / m := ⟨_, rfl⟩
  have s1 := ediv_size (d' * p - l * (t' - a)) m (by omega)
  rw [← hq] at c4 hr s1
  have w4' : IntKind.i64.wrap (t' + q) = t' + q := IntWalk.i64_in _ (by
    rcases Int.lt_or_le (d' * p - l * (t' - a)) 0 with h | h
    · have := s1.2 h; omega
    · have := s1.1 h; omega)
  subst hr
  clear s1 hq ht hd
  clear e1 e2
  go_enter Try.func34, Try.ntmps34
  go_wp2_with fail
  refine (c1.out _).mono ?_; rintro e w1 ⟨rfl, x_w1⟩
  obtain ⟨k_w1, f_w1⟩ := bcell x_w1
  have s_w1 := x_w1.size; (try simp at s_w1)
  have z0_w1 : w.heap.size < w1.heap.size := by omega
  have q0_w1 : w1.cell? ⟨w.heap.size, 0, none⟩ = some (.int .i64 p) := by rw [k_w1 _ _ (by first | omega | (simp; done) | (simp; omega))]; go_simp
  have q1_w1 : w1.cell? ⟨w.heap.size, 1, none⟩ = some (.int .i64 l) := by rw [k_w1 _ _ (by first | omega | (simp; done) | (simp; omega))]; go_simp
  have q2_w1 : w1.cell? ⟨w.heap.size, 2, none⟩ = some (.int .i64 m) := by rw [k_w1 _ _ (by first | omega | (simp; done) | (simp; omega))]; go_simp
  have q3_w1 : w1.cell? ⟨w.heap.size, 3, none⟩ = some (.int .i64 a) := by rw [k_w1 _ _ (by first | omega | (simp; done) | (simp; omega))]; go_simp
  have X_w1 := Lib.hid (show Ext w w1 from Ext.trans (by (repeat' (with_reducible first | refine Ext.drew ?_ | refine Ext.drewN ?_ _ | refine Ext.alloc ?_ _ | exact Ext.refl _ | fail | (refine Ext.setCell ?_ ?_ _; rotate_left; (focus ((try simp); try omega)))))) x_w1)
  clear x_w1 s_w1
  go_wp2_with fail
  refine (c2.out _).mono ?_; rintro e w' ⟨rfl, rfl⟩
  go_wp2_with fail
  refine (c3.out _).mono ?_; rintro e w' ⟨rfl, rfl⟩
  go_wp2_with fail
  refine (c4.out _).mono ?_; rintro e w' ⟨rfl, rfl⟩
  go_wp2_with fail
  go_ret
  exact ⟨rfl, by (repeat' (with_reducible first | refine Ext.drew ?_ | refine Ext.drewN ?_ _ | refine Ext.alloc ?_ _ | exact Ext.refl _ | exact X_w1.out | (refine Ext.setCell ?_ ?_ _; rotate_left; (focus ((try simp); try omega)))))⟩
theorem additiveref48_HStep (p l m a t d r : Int) (h : HStepIs p l m a t d r) (w : World) :
    Calls Try.prog 34 #[.agg #[.int .i64 p, .int .i64 l, .int .i64 m, .int .i64 a], .int .i64 t, .int .i64 d] w fun e w' => e = .returned (.int .i64 r) ∧ Ext w w' := by
  rcases h with ⟨hv, hr⟩ | ⟨hv, rfl⟩
  · exact additiveref48_HStep_ok p l m a t d _ _ r hv rfl rfl hr w
  · have c1 := Lib.hid fun w => additiveref48_HValid p l m a false (by rw [decide_eq_false hv]) w
    clear hv
    go_enter Try.func34, Try.ntmps34
    go_wp2_with fail
    refine (c1.out _).mono ?_; rintro e w1 ⟨rfl, x_w1⟩
    obtain ⟨k_w1, f_w1⟩ := bcell x_w1
    have X_w1 := Lib.hid (show Ext w w1 from Ext.trans (by (repeat' (with_reducible first | refine Ext.drew ?_ | refine Ext.drewN ?_ _ | refine Ext.alloc ?_ _ | exact Ext.refl _ | fail | (refine Ext.setCell ?_ ?_ _; rotate_left; (focus ((try simp); try omega)))))) x_w1)
    clear x_w1
    go_wp2_with fail
    go_ret
    exact ⟨rfl, by (repeat' (with_reducible first | refine Ext.drew ?_ | refine Ext.drewN ?_ _ | refine Ext.alloc ?_ _ | exact Ext.refl _ | exact X_w1.out | (refine Ext.setCell ?_ ?_ _; rotate_left; (focus ((try simp); try omega)))))⟩
theorem additiveref48_Top (p l m a r : Int) (h : TopIs p l m a r) (w : World) :
    Calls Try.prog 31 #[.agg #[.int .i64 p, .int .i64 l, .int .i64 m, .int .i64 a]] w fun e w' => e = .returned (.int .i64 r) ∧ Ext w w' := by
  rcases h with ⟨hv, hr⟩ | ⟨hv, rfl⟩
  · have c1 := Lib.hid fun w => additiveref48_HValid p l m a true (by rw [decide_eq_true hv]) w
    obtain ⟨p0, p1, l0, l1, m0, m1, a0, a1⟩ := hv
    have c4 := Lib.hid fun w => ref_FloorP (-255 * p) l (by omega) (by omega) (by omega) (by omega) w
    obtain ⟨q, hq⟩ : ∃ q, q = (-255 * p) / l := ⟨_, rfl⟩
    have s1 := ediv_size (-255 * p) l (by omega)
    rw [← hq] at c4 hr s1
    have w3' : IntKind.i64.wrap (-255 * p) = -255 * p := IntWalk.i64_in _ (by omega)
    have w4' : IntKind.i64.wrap (a - q) = a - q := IntWalk.i64_in _ (by
      rcases Int.lt_or_le (-255 * p) 0 with h | h
      · have := s1.2 h; omega
      · have := s1.1 h; omega)
    subst hr
    clear s1 hq
    go_enter Try.func31, Try.ntmps31
    go_wp2_with fail
    refine (c1.out _).mono ?_; rintro e w1 ⟨rfl, x_w1⟩
    obtain ⟨k_w1, f_w1⟩ := bcell x_w1
    have s_w1 := x_w1.size; (try simp at s_w1)
    have z0_w1 : w.heap.size < w1.heap.size := by omega
    have X_w1 := Lib.hid (show Ext w w1 from Ext.trans (by (repeat' (with_reducible first | refine Ext.drew ?_ | refine Ext.drewN ?_ _ | refine Ext.alloc ?_ _ | exact Ext.refl _ | fail | (refine Ext.setCell ?_ ?_ _; rotate_left; (focus ((try simp); try omega)))))) x_w1)
    clear x_w1 s_w1
    go_wp2_with fail
    refine (c4.out _).mono ?_; rintro e w' ⟨rfl, rfl⟩
    go_wp2_with fail
    go_ret
    exact ⟨rfl, by (repeat' (with_reducible first | refine Ext.drew ?_ | refine Ext.drewN ?_ _ | refine Ext.alloc ?_ _ | exact Ext.refl _ | exact X_w1.out | (refine Ext.setCell ?_ ?_ _; rotate_left; (focus ((try simp); try omega)))))⟩
  · have c1 := Lib.hid fun w => additiveref48_HValid p l m a false (by rw [decide_eq_false hv]) w
    clear hv
    go_enter Try.func31, Try.ntmps31
    go_wp2_with fail
    refine (c1.out _).mono ?_; rintro e w1 ⟨rfl, x_w1⟩
    obtain ⟨k_w1, f_w1⟩ := bcell x_w1
    have X_w1 := Lib.hid (show Ext w w1 from Ext.trans (by (repeat' (with_reducible first | refine Ext.drew ?_ | refine Ext.drewN ?_ _ | refine Ext.alloc ?_ _ | exact Ext.refl _ | fail | (refine Ext.setCell ?_ ?_ _; rotate_left; (focus ((try simp); try omega)))))) x_w1)
    clear x_w1
    go_wp2_with fail
    go_ret
    exact ⟨rfl, by (repeat' (with_reducible first | refine Ext.drew ?_ | refine Ext.drewN ?_ _ | refine Ext.alloc ?_ _ | exact Ext.refl _ | exact X_w1.out | (refine Ext.setCell ?_ ?_ _; rotate_left; (focus ((try simp); try omega)))))⟩
end Go.Proofs.Ythgmacoljkljfaa

