/-
  Pulse of package dda and of the document's own answers; the walks of the laws DdaCounts, DdaAt, DdaPulse: each answers true.
-/
import Derived.Test.YtnljefglidhnjaaDdD
namespace Go.Proofs.Ytnljefglidhnjaa
open Go.RowKit
theorem htakeE {P : Program} {ops : Array Oper} {Q : Exit → Act → World → Prop} {md : Region.Mode} {S : World → Prop} {i : Nat} {oi : Oper} {v : Value} {fuel : Nat} {listed : Array Bool} {a : Act} {w : World} (d : Option Tmp) (hi : ops[i]? = some oi) (hd : oi.dst = d)
    (hs : Region.noSelect ops = true) (hf : Region.free md ops listed i = true) (hr : (Region.ready md ops listed).contains i = true)
    (hQ : ∀ c a w, Q (.panic c) (a.put d v) w → Q (.panic c) a w) (hy : YieldsIf P ops S oi v a) (hS : S w)
    (h : wpAnyH P md ops Q S fuel (listed.setIfInBounds i true) (a.put d v) w) : wpAnyH P md ops Q S (fuel + 1) listed a w := by
  subst hd
  exact wpAnyH_take hi hs hf hr hQ hy hS h
/-- What Pulse answers. -/
def PulseIs (a b c d i P0 P1 P2 P3 : Int) : Prop := ∃ n, DomIs a b c d n ∧ ((1 ≤ i ∧ i ≤ n ∧ ∃ B0 B1 B2 B3 C0 C1 C2 C3, AtIs a b c d i B0 B1 B2 B3 ∧ AtIs a b c d (i - 1) C0 C1 C2 C3 ∧ P0 = B0 - C0 ∧ P1 = B1 - C1 ∧ P2 = B2 - C2 ∧ P3 = B3 - C3) ∨ ((i < 1 ∨ n < i) ∧ P0 = 0 ∧ P1 = 0 ∧ P2 = 0 ∧ P3 = 0))
theorem pulseIs_ex (a b c d i : Int) : ∃ P0 P1 P2 P3, PulseIs a b c d i P0 P1 P2 P3 := by
  obtain ⟨n, hn⟩ := domIs_ex a b c d
  by_cases h : 1 ≤ i ∧ i ≤ n
  · obtain ⟨B0, B1, B2, B3, hb⟩ := atIs_ex a b c d i
    obtain ⟨C0, C1, C2, C3, hc⟩ := atIs_ex a b c d (i - 1)
    exact ⟨_, _, _, _, n, hn, .inl ⟨h.1, h.2, B0, B1, B2, B3, C0, C1, C2, C3, hb, hc, rfl, rfl, rfl, rfl⟩⟩
  · exact ⟨0, 0, 0, 0, n, hn, .inr ⟨by omega, rfl, rfl, rfl, rfl⟩⟩
set_option maxHeartbeats 4000000 in
theorem dda_Pulse (a b c d i P0 P1 P2 P3 : Int) (h : PulseIs a b c d i P0 P1 P2 P3) (w : World) :
    Calls Try.prog 22 #[.agg #[.int .i64 a, .int .i64 b, .int .i64 c, .int .i64 d], .int .i64 i] w fun e w' => e = .returned (.agg #[.int .i64 P0, .int .i64 P1, .int .i64 P2, .int .i64 P3]) ∧ Ext w w' := by
  obtain ⟨n, hn, ⟨hi, hi2, B0, B1, B2, B3, C0, C1, C2, C3, hb, hc, rfl, rfl, rfl, rfl⟩ | ⟨hi, rfl, rfl, rfl, rfl⟩⟩ := h
  · exact dda_Pulse_ok a b c d i n B0 B1 B2 B3 C0 C1 C2 C3 hn hi hi2 hb hc w
  · by_cases h1 : i < 1
    · have d1 := dlt_t h1
      clear hi h1 hn
      go_enter Try.func22, Try.ntmps22
      go_wp2_with fail
      exact bodyPost_ret (v := .agg #[.int .i64 0, .int .i64 0, .int .i64 0, .int .i64 0]) (by simp [results, Try.results22, go_sem, *]) rfl ⟨rfl, by (repeat' (with_reducible first | refine Ext.drew ?_ | refine Ext.drewN ?_ _ | refine Ext.alloc ?_ _ | exact Ext.refl _ | fail | (refine Ext.setCell ?_ ?_ _; rotate_left; (focus ((try simp); try omega)))))⟩
    · have d1 := dlt_f (show (1 : Int) ≤ i by omega)
      have d2 := dlt_t (show n < i by omega)
      have c1 := Lib.hid fun w => dda_Dominant a b c d n hn w
      clear hi h1 hn
      go_enter Try.func22, Try.ntmps22
      go_wp2_with fail
      refine (c1.out _).mono ?_; rintro e w1 ⟨rfl, x_w1⟩
      obtain ⟨k_w1, f_w1⟩ := bcell x_w1
      have s_w1 := x_w1.size; (try simp at s_w1)
      have z0_w1 : w.heap.size < w1.heap.size := by omega
      have z1_w1 : w.heap.size + 1 < w1.heap.size := by omega
      have X_w1 := Lib.hid (show Ext w w1 from Ext.trans (by (repeat' (with_reducible first | refine Ext.drew ?_ | refine Ext.drewN ?_ _ | refine Ext.alloc ?_ _ | exact Ext.refl _ | fail | (refine Ext.setCell ?_ ?_ _; rotate_left; (focus ((try simp); try omega)))))) x_w1)
      clear x_w1 s_w1
      go_wp2_with fail
      exact bodyPost_ret (v := .agg #[.int .i64 0, .int .i64 0, .int .i64 0, .int .i64 0]) (by simp [results, Try.results22, go_sem, *]) rfl ⟨rfl, by (repeat' (with_reducible first | refine Ext.drew ?_ | refine Ext.drewN ?_ _ | refine Ext.alloc ?_ _ | exact Ext.refl _ | exact X_w1.out | (refine Ext.setCell ?_ ?_ _; rotate_left; (focus ((try simp); try omega)))))⟩
set_option maxHeartbeats 4000000 in
theorem ref_Pulse (a b c d i P0 P1 P2 P3 : Int) (h : PulseIs a b c d i P0 P1 P2 P3) (w : World) :
    Calls Try.prog 23 #[.agg #[.int .i64 a, .int .i64 b, .int .i64 c, .int .i64 d], .int .i64 i] w fun e w' => e = .returned (.agg #[.int .i64 P0, .int .i64 P1, .int .i64 P2, .int .i64 P3]) ∧ Ext w w' := by
  obtain ⟨n, hn, ⟨hi, hi2, B0, B1, B2, B3, C0, C1, C2, C3, hb, hc, rfl, rfl, rfl, rfl⟩ | ⟨hi, rfl, rfl, rfl, rfl⟩⟩ := h
  · exact ref_Pulse_ok a b c d i n B0 B1 B2 B3 C0 C1 C2 C3 hn hi hi2 hb hc w
  · by_cases h1 : i < 1
    · have d1 := dlt_t h1
      clear hi h1 hn
      go_enter Try.func23, Try.ntmps23
      go_wp2_with fail
      exact bodyPost_ret (v := .agg #[.int .i64 0, .int .i64 0, .int .i64 0, .int .i64 0]) (by simp [results, Try.results23, go_sem, *]) rfl ⟨rfl, by (repeat' (with_reducible first | refine Ext.drew ?_ | refine Ext.drewN ?_ _ | refine Ext.alloc ?_ _ | exact Ext.refl _ | fail | (refine Ext.setCell ?_ ?_ _; rotate_left; (focus ((try simp); try omega)))))⟩
    · have d1 := dlt_f (show (1 : Int) ≤ i by omega)
      have d2 := dlt_t (show n < i by omega)
      have c1 := Lib.hid fun w => ref_Dominant a b c d n hn w
      clear hi h1 hn
      go_enter Try.func23, Try.ntmps23
      go_wp2_with fail
      refine (c1.out _).mono ?_; rintro e w1 ⟨rfl, x_w1⟩
      obtain ⟨k_w1, f_w1⟩ := bcell x_w1
      have s_w1 := x_w1.size; (try simp at s_w1)
      have z0_w1 : w.heap.size < w1.heap.size := by omega
      have z1_w1 : w.heap.size + 1 < w1.heap.size := by omega
      have z2_w1 : w.heap.size + 1 + 1 < w1.heap.size := by omega
      have X_w1 := Lib.hid (show Ext w w1 from Ext.trans (by (repeat' (with_reducible first | refine Ext.drew ?_ | refine Ext.drewN ?_ _ | refine Ext.alloc ?_ _ | exact Ext.refl _ | fail | (refine Ext.setCell ?_ ?_ _; rotate_left; (focus ((try simp); try omega)))))) x_w1)
      clear x_w1 s_w1
      go_wp2_with fail
      exact bodyPost_ret (v := .agg #[.int .i64 0, .int .i64 0, .int .i64 0, .int .i64 0]) (by simp [results, Try.results23, go_sem, *]) rfl ⟨rfl, by (repeat' (with_reducible first | refine Ext.drew ?_ | refine Ext.drewN ?_ _ | refine Ext.alloc ?_ _ | exact Ext.refl _ | exact X_w1.out | (refine Ext.setCell ?_ ?_ _; rotate_left; (focus ((try simp); try omega)))))⟩
set_option maxHeartbeats 4000000 in
theorem law_awake42 (w : World) : Calls Try.prog 19 #[] w fun e w' => e = .returned (.bool true) ∧ Ext w w' := by
  have c1 := Lib.hid fun w => dda_Dominant 4 (-2) 0 1 4 (.inl ⟨by decide, by decide⟩) w
  have c2 := Lib.hid fun w => dda_At 4 (-2) 0 1 3 3 (-2) 0 1 (.inl ⟨by decide, by decide, by decide, by decide, by decide⟩) w
  have c3 := Lib.hid fun w => dda_Pulse 4 (-2) 0 1 2 1 0 0 1 ⟨4, .inl ⟨by decide, by decide⟩, .inl ⟨by decide, by decide, 2, -1, 0, 1, 1, -1, 0, 0, .inl ⟨by decide, by decide, by decide, by decide, by decide⟩, .inl ⟨by decide, by decide, by decide, by decide, by decide⟩, by decide, by decide, by decide, by decide⟩⟩ w
  have e1 := fun w => eqs_4 3 (-2) 0 1 w
  have e2 := fun w => eqs_4 1 0 0 1 w
  go_enter Try.func19, Try.ntmps19
  go_wp2_with fail
  refine (c1.out _).mono ?_; rintro e w1 ⟨rfl, x_w1⟩
  obtain ⟨k_w1, f_w1⟩ := bcell x_w1
  have s_w1 := x_w1.size; (try simp at s_w1)
  have z0_w1 : w.heap.size < w1.heap.size := by omega
  have X_w1 := Lib.hid (show Ext w w1 from Ext.trans (by (repeat' (with_reducible first | refine Ext.drew ?_ | refine Ext.drewN ?_ _ | refine Ext.alloc ?_ _ | exact Ext.refl _ | fail | (refine Ext.setCell ?_ ?_ _; rotate_left; (focus ((try simp); try omega)))))) x_w1)
  clear x_w1 s_w1
  go_wp2_with fail
  refine (c2.out _).mono ?_; rintro e w2 ⟨rfl, x_w2⟩
  obtain ⟨k_w2, f_w2⟩ := bcell x_w2
  have s_w2 := x_w2.size; (try simp at s_w2)
  have z0_w2 : w.heap.size < w2.heap.size := by omega
  have X_w2 := Lib.hid (show Ext w w2 from Ext.trans (by (repeat' (with_reducible first | refine Ext.drew ?_ | refine Ext.drewN ?_ _ | refine Ext.alloc ?_ _ | exact Ext.refl _ | exact X_w1.out | (refine Ext.setCell ?_ ?_ _; rotate_left; (focus ((try simp); try omega)))))) x_w2)
  clear x_w2 s_w2
  go_wp2_with fail
  refine (c3.out _).mono ?_; rintro e w3 ⟨rfl, x_w3⟩
  obtain ⟨k_w3, f_w3⟩ := bcell x_w3
  have X_w3 := Lib.hid (show Ext w w3 from Ext.trans (by (repeat' (with_reducible first | refine Ext.drew ?_ | refine Ext.drewN ?_ _ | refine Ext.alloc ?_ _ | exact Ext.refl _ | exact X_w2.out | exact X_w1.out | (refine Ext.setCell ?_ ?_ _; rotate_left; (focus ((try simp); try omega)))))) x_w3)
  clear x_w3
  go_wp2_with fail
  go_ret
  exact ⟨rfl, by (repeat' (with_reducible first | refine Ext.drew ?_ | refine Ext.drewN ?_ _ | refine Ext.alloc ?_ _ | exact Ext.refl _ | exact X_w3.out | exact X_w2.out | exact X_w1.out | (refine Ext.setCell ?_ ?_ _; rotate_left; (focus ((try simp); try omega)))))⟩
set_option maxHeartbeats 4000000 in
theorem law_DdaCounts (a b c d : Int) (w : World) : Calls Try.prog 3 #[.agg #[.int .i64 a, .int .i64 b, .int .i64 c, .int .i64 d]] w fun e w' => e = .returned (.bool true) ∧ Ext w w' := by
  have ka := Lib.hid law_awake42
  obtain ⟨n, hn⟩ := domIs_ex a b c d
  obtain ⟨t, ht⟩ : ∃ t, t = decide (DVal a b c d) := ⟨_, rfl⟩
  have c1 := Lib.hid fun w => dda_DValid a b c d t ht w
  have c2 := Lib.hid fun w => ref_DValid a b c d t ht w
  have c3 := Lib.hid fun w => dda_Dominant a b c d n hn w
  have c4 := Lib.hid fun w => ref_Dominant a b c d n hn w
  have e1 : (t == t) = true := by simp
  have e2 := beq_t (rfl : n = n)
  clear hn ht
  go_enter Try.func3, Try.ntmps3
  go_wp2_with fail
  refine wp_world fun W h_W => ?_
  have q0_W : W.cell? ⟨w.heap.size, 0, none⟩ = some (.int .i64 a) := by rw [h_W]; go_simp
  have u0_W : ∀ w', Ext W w' → w'.cell? ⟨w.heap.size, 0, none⟩ = some (.int .i64 a) := fun _ h => h.keep q0_W
  have q1_W : W.cell? ⟨w.heap.size, 1, none⟩ = some (.int .i64 b) := by rw [h_W]; go_simp
  have u1_W : ∀ w', Ext W w' → w'.cell? ⟨w.heap.size, 1, none⟩ = some (.int .i64 b) := fun _ h => h.keep q1_W
  have q2_W : W.cell? ⟨w.heap.size, 2, none⟩ = some (.int .i64 c) := by rw [h_W]; go_simp
  have u2_W : ∀ w', Ext W w' → w'.cell? ⟨w.heap.size, 2, none⟩ = some (.int .i64 c) := fun _ h => h.keep q2_W
  have q3_W : W.cell? ⟨w.heap.size, 3, none⟩ = some (.int .i64 d) := by rw [h_W]; go_simp
  have u3_W : ∀ w', Ext W w' → w'.cell? ⟨w.heap.size, 3, none⟩ = some (.int .i64 d) := fun _ h => h.keep q3_W
  have X_W := Lib.hid (show Ext w W by rw [h_W]; exact (by (repeat' (with_reducible first | refine Ext.drew ?_ | refine Ext.drewN ?_ _ | refine Ext.alloc ?_ _ | exact Ext.refl _ | fail | (refine Ext.setCell ?_ ?_ _; rotate_left; (focus ((try simp); try omega)))))))
  clear h_W
  refine wp_region_held_drew (S := fun w' => Ext W w') (by kernel_rfl) (by (try dsimp only); (repeat' (with_reducible first | assumption | refine Ext.drew ?_ | refine Ext.drewN ?_ _ | exact Ext.refl _))) (fun hHeld => ?_)
  refine htakeE (i := 0) (v := ?_) (some 3) rfl rfl (by kernel_rfl) (by kernel_rfl) (by kernel_rfl) (fun _ _ _ h => h) (Or.inl ⟨by rfl, ?_⟩) (by assumption) ?_; rotate_left; (focus (intro w hSw; (try dsimp only at hSw); go_simp; (try with_reducible rfl))); (try simp only [Act.put]); (try simp only [List.setIfInBounds_toArray]); (try simp only [List.set_cons_succ]); (try simp only [List.set_cons_zero])
  refine htakeE (i := 2) (v := ?_) (some 5) rfl rfl (by kernel_rfl) (by kernel_rfl) (by kernel_rfl) (fun _ _ _ h => h) (Or.inl ⟨by rfl, ?_⟩) (by assumption) ?_; rotate_left; (focus (intro w hSw; (try dsimp only at hSw); go_simp; (try with_reducible rfl))); (try simp only [Act.put]); (try simp only [List.setIfInBounds_toArray]); (try simp only [List.set_cons_succ]); (try simp only [List.set_cons_zero])
  refine wpAnyH_ready (rs := [1]) (by kernel_rfl) (by simp) ?_
  refine AllReadyH.cons rfl (fun K hK => ?_) AllReadyH.nil
  go_simp
  refine (c1.out _).mono ?_; rintro e w1 ⟨rfl, y_w1⟩; have x_w1 := Ext.trans (show Ext W _ by assumption) y_w1; clear y_w1
  (try go_wp2_with fail)
  refine hK.out _ _ ?_ (fun hHeld => ?_)
  · (try dsimp only); (repeat' (with_reducible first | assumption | refine Ext.drew ?_ | refine Ext.drewN ?_ _ | exact Ext.refl _))
  clear hK K
  (try simp only [Act.put]); (try simp only [List.setIfInBounds_toArray]); (try simp only [List.set_cons_succ]); (try simp only [List.set_cons_zero])
  refine wpAnyH_ready (rs := [3]) (by kernel_rfl) (by simp) ?_
  refine AllReadyH.cons rfl (fun K hK => ?_) AllReadyH.nil
  go_simp
  refine (c2.out _).mono ?_; rintro e w2 ⟨rfl, y_w2⟩; have x_w2 := Ext.trans (show Ext W _ by assumption) y_w2; clear y_w2
  (try go_wp2_with fail)
  refine hK.out _ _ ?_ (fun hHeld => ?_)
  · (try dsimp only); (repeat' (with_reducible first | assumption | refine Ext.drew ?_ | refine Ext.drewN ?_ _ | exact Ext.refl _))
  clear hK K
  (try simp only [Act.put]); (try simp only [List.setIfInBounds_toArray]); (try simp only [List.set_cons_succ]); (try simp only [List.set_cons_zero])
  refine htakeE (i := 4) (v := ?_) (some 7) rfl rfl (by kernel_rfl) (by kernel_rfl) (by kernel_rfl) (fun _ _ _ h => h) (Or.inl ⟨by rfl, ?_⟩) (by assumption) ?_; rotate_left; (focus (intro w hSw; (try dsimp only at hSw); go_simp; (try with_reducible rfl))); (try simp only [Act.put]); (try simp only [List.setIfInBounds_toArray]); (try simp only [List.set_cons_succ]); (try simp only [List.set_cons_zero])
  refine htakeE (i := 5) (v := ?_) (some 8) rfl rfl (by kernel_rfl) (by kernel_rfl) (by kernel_rfl) (fun _ _ _ h => h) (Or.inl ⟨by rfl, ?_⟩) (by assumption) ?_; rotate_left; (focus (intro w hSw; (try dsimp only at hSw); go_simp; (try with_reducible rfl))); (try simp only [Act.put]); (try simp only [List.setIfInBounds_toArray]); (try simp only [List.set_cons_succ]); (try simp only [List.set_cons_zero])
  refine htakeE (i := 6) (v := ?_) (some 9) rfl rfl (by kernel_rfl) (by kernel_rfl) (by kernel_rfl) (fun _ _ _ h => h) (Or.inl ⟨by rfl, ?_⟩) (by assumption) ?_; rotate_left; (focus (intro w hSw; (try dsimp only at hSw); go_simp; (try with_reducible rfl))); (try simp only [Act.put]); (try simp only [List.setIfInBounds_toArray]); (try simp only [List.set_cons_succ]); (try simp only [List.set_cons_zero])
  refine htakeE (i := 8) (v := ?_) (some 11) rfl rfl (by kernel_rfl) (by kernel_rfl) (by kernel_rfl) (fun _ _ _ h => h) (Or.inl ⟨by rfl, ?_⟩) (by assumption) ?_; rotate_left; (focus (intro w hSw; (try dsimp only at hSw); go_simp; (try with_reducible rfl))); (try simp only [Act.put]); (try simp only [List.setIfInBounds_toArray]); (try simp only [List.set_cons_succ]); (try simp only [List.set_cons_zero])
  refine wpAnyH_ready (rs := [7]) (by kernel_rfl) (by simp) ?_
  refine AllReadyH.cons rfl (fun K hK => ?_) AllReadyH.nil
  go_simp
  refine (c3.out _).mono ?_; rintro e w3 ⟨rfl, y_w3⟩; have x_w3 := Ext.trans (show Ext W _ by assumption) y_w3; clear y_w3
  (try go_wp2_with fail)
  refine hK.out _ _ ?_ (fun hHeld => ?_)
  · (try dsimp only); (repeat' (with_reducible first | assumption | refine Ext.drew ?_ | refine Ext.drewN ?_ _ | exact Ext.refl _))
  clear hK K
  (try simp only [Act.put]); (try simp only [List.setIfInBounds_toArray]); (try simp only [List.set_cons_succ]); (try simp only [List.set_cons_zero])
  refine wpAnyH_ready (rs := [9]) (by kernel_rfl) (by simp) ?_
  refine AllReadyH.cons rfl (fun K hK => ?_) AllReadyH.nil
  go_simp
  refine (c4.out _).mono ?_; rintro e w4 ⟨rfl, y_w4⟩; have x_w4 := Ext.trans (show Ext W _ by assumption) y_w4; clear y_w4
  (try go_wp2_with fail)
  refine hK.out _ _ ?_ (fun hHeld => ?_)
  · (try dsimp only); (repeat' (with_reducible first | assumption | refine Ext.drew ?_ | refine Ext.drewN ?_ _ | exact Ext.refl _))
  clear hK K
  (try simp only [Act.put]); (try simp only [List.setIfInBounds_toArray]); (try simp only [List.set_cons_succ]); (try simp only [List.set_cons_zero])
  refine htakeE (i := 10) (v := ?_) (some 13) rfl rfl (by kernel_rfl) (by kernel_rfl) (by kernel_rfl) (fun _ _ _ h => h) (Or.inl ⟨by rfl, ?_⟩) (by assumption) ?_; rotate_left; (focus (intro w hSw; (try dsimp only at hSw); go_simp; (try with_reducible rfl))); (try simp only [Act.put]); (try simp only [List.setIfInBounds_toArray]); (try simp only [List.set_cons_succ]); (try simp only [List.set_cons_zero])
  refine htakeE (i := 11) (v := ?_) (some 14) rfl rfl (by kernel_rfl) (by kernel_rfl) (by kernel_rfl) (fun _ _ _ h => h) (Or.inl ⟨by rfl, ?_⟩) (by assumption) ?_; rotate_left; (focus (intro w hSw; (try dsimp only at hSw); go_simp; (try with_reducible rfl))); (try simp only [Act.put]); (try simp only [List.setIfInBounds_toArray]); (try simp only [List.set_cons_succ]); (try simp only [List.set_cons_zero])
  refine htakeE (i := 12) (v := ?_) (some 15) rfl rfl (by kernel_rfl) (by kernel_rfl) (by kernel_rfl) (fun _ _ _ h => h) (Or.inl ⟨by rfl, ?_⟩) (by assumption) ?_; rotate_left; (focus (intro w hSw; (try dsimp only at hSw); go_simp; (try with_reducible rfl))); (try simp only [Act.put]); (try simp only [List.setIfInBounds_toArray]); (try simp only [List.set_cons_succ]); (try simp only [List.set_cons_zero])
  refine wpAnyH_ready (rs := [13]) (by kernel_rfl) (by simp) ?_
  refine AllReadyH.cons rfl (fun K hK => ?_) AllReadyH.nil
  go_simp
  refine (ka.out _).mono ?_; rintro e w5 ⟨rfl, y_w5⟩; have x_w5 := Ext.trans (show Ext W _ by assumption) y_w5; clear y_w5
  (try go_wp2_with fail)
  refine hK.out _ _ ?_ (fun hHeld => ?_)
  · (try dsimp only); (repeat' (with_reducible first | assumption | refine Ext.drew ?_ | refine Ext.drewN ?_ _ | exact Ext.refl _))
  clear hK K
  (try simp only [Act.put]); (try simp only [List.setIfInBounds_toArray]); (try simp only [List.set_cons_succ]); (try simp only [List.set_cons_zero])
  refine htakeE (i := 14) (v := ?_) (some 17) rfl rfl (by kernel_rfl) (by kernel_rfl) (by kernel_rfl) (fun _ _ _ h => h) (Or.inl ⟨by rfl, ?_⟩) (by assumption) ?_; rotate_left; (focus (intro w hSw; (try dsimp only at hSw); go_simp; (try with_reducible rfl))); (try simp only [Act.put]); (try simp only [List.setIfInBounds_toArray]); (try simp only [List.set_cons_succ]); (try simp only [List.set_cons_zero])
  refine htakeE (i := 15) (v := ?_) (some 2) rfl rfl (by kernel_rfl) (by kernel_rfl) (by kernel_rfl) (fun _ _ _ h => h) (Or.inl ⟨by rfl, ?_⟩) (by assumption) ?_; rotate_left; (focus (intro w hSw; (try dsimp only at hSw); go_simp; (try with_reducible rfl))); (try simp only [Act.put]); (try simp only [List.setIfInBounds_toArray]); (try simp only [List.set_cons_succ]); (try simp only [List.set_cons_zero])
  refine wpAnyH_done (by kernel_rfl) ?_ _
  go_wp2_with fail
  go_ret
  exact ⟨rfl, X_W.out.trans (by assumption)⟩
set_option maxHeartbeats 4000000 in
theorem law_DdaAt (a b c d i : Int) (w : World) : Calls Try.prog 4 #[.agg #[.int .i64 a, .int .i64 b, .int .i64 c, .int .i64 d], .int .i64 i] w fun e w' => e = .returned (.bool true) ∧ Ext w w' := by
  have ka := Lib.hid law_awake42
  obtain ⟨A0, A1, A2, A3, h⟩ := atIs_ex a b c d i
  have c1 := Lib.hid fun w => dda_At a b c d i A0 A1 A2 A3 h w
  have c2 := Lib.hid fun w => ref_At a b c d i A0 A1 A2 A3 h w
  have e1 := fun w => eqs_4 A0 A1 A2 A3 w
  clear h
  go_enter Try.func4, Try.ntmps4
  go_wp2_with fail
  refine wp_world fun W h_W => ?_
  have q0_W : W.cell? ⟨w.heap.size, 0, none⟩ = some (.int .i64 a) := by rw [h_W]; go_simp
  have u0_W : ∀ w', Ext W w' → w'.cell? ⟨w.heap.size, 0, none⟩ = some (.int .i64 a) := fun _ h => h.keep q0_W
  have q1_W : W.cell? ⟨w.heap.size, 1, none⟩ = some (.int .i64 b) := by rw [h_W]; go_simp
  have u1_W : ∀ w', Ext W w' → w'.cell? ⟨w.heap.size, 1, none⟩ = some (.int .i64 b) := fun _ h => h.keep q1_W
  have q2_W : W.cell? ⟨w.heap.size, 2, none⟩ = some (.int .i64 c) := by rw [h_W]; go_simp
  have u2_W : ∀ w', Ext W w' → w'.cell? ⟨w.heap.size, 2, none⟩ = some (.int .i64 c) := fun _ h => h.keep q2_W
  have q3_W : W.cell? ⟨w.heap.size, 3, none⟩ = some (.int .i64 d) := by rw [h_W]; go_simp
  have u3_W : ∀ w', Ext W w' → w'.cell? ⟨w.heap.size, 3, none⟩ = some (.int .i64 d) := fun _ h => h.keep q3_W
  have X_W := Lib.hid (show Ext w W by rw [h_W]; exact (by (repeat' (with_reducible first | refine Ext.drew ?_ | refine Ext.drewN ?_ _ | refine Ext.alloc ?_ _ | exact Ext.refl _ | fail | (refine Ext.setCell ?_ ?_ _; rotate_left; (focus ((try simp); try omega)))))))
  clear h_W
  refine wp_region_held_drew (S := fun w' => Ext W w') (by kernel_rfl) (by (try dsimp only); (repeat' (with_reducible first | assumption | refine Ext.drew ?_ | refine Ext.drewN ?_ _ | exact Ext.refl _))) (fun hHeld => ?_)
  refine htakeE (i := 0) (v := ?_) (some 5) rfl rfl (by kernel_rfl) (by kernel_rfl) (by kernel_rfl) (fun _ _ _ h => h) (Or.inl ⟨by rfl, ?_⟩) (by assumption) ?_; rotate_left; (focus (intro w hSw; (try dsimp only at hSw); go_simp; (try with_reducible rfl))); (try simp only [Act.put]); (try simp only [List.setIfInBounds_toArray]); (try simp only [List.set_cons_succ]); (try simp only [List.set_cons_zero])
  refine htakeE (i := 1) (v := ?_) (some 6) rfl rfl (by kernel_rfl) (by kernel_rfl) (by kernel_rfl) (fun _ _ _ h => h) (Or.inl ⟨by rfl, ?_⟩) (by assumption) ?_; rotate_left; (focus (intro w hSw; (try dsimp only at hSw); go_simp; (try with_reducible rfl))); (try simp only [Act.put]); (try simp only [List.setIfInBounds_toArray]); (try simp only [List.set_cons_succ]); (try simp only [List.set_cons_zero])
  refine htakeE (i := 3) (v := ?_) (some 8) rfl rfl (by kernel_rfl) (by kernel_rfl) (by kernel_rfl) (fun _ _ _ h => h) (Or.inl ⟨by rfl, ?_⟩) (by assumption) ?_; rotate_left; (focus (intro w hSw; (try dsimp only at hSw); go_simp; (try with_reducible rfl))); (try simp only [Act.put]); (try simp only [List.setIfInBounds_toArray]); (try simp only [List.set_cons_succ]); (try simp only [List.set_cons_zero])
  refine htakeE (i := 4) (v := ?_) (some 9) rfl rfl (by kernel_rfl) (by kernel_rfl) (by kernel_rfl) (fun _ _ _ h => h) (Or.inl ⟨by rfl, ?_⟩) (by assumption) ?_; rotate_left; (focus (intro w hSw; (try dsimp only at hSw); go_simp; (try with_reducible rfl))); (try simp only [Act.put]); (try simp only [List.setIfInBounds_toArray]); (try simp only [List.set_cons_succ]); (try simp only [List.set_cons_zero])
  refine wpAnyH_ready (rs := [2]) (by kernel_rfl) (by simp) ?_
  refine AllReadyH.cons rfl (fun K hK => ?_) AllReadyH.nil
  go_simp
  refine (c1.out _).mono ?_; rintro e w1 ⟨rfl, y_w1⟩; have x_w1 := Ext.trans (show Ext W _ by assumption) y_w1; clear y_w1
  (try go_wp2_with fail)
  refine hK.out _ _ ?_ (fun hHeld => ?_)
  · (try dsimp only); (repeat' (with_reducible first | assumption | refine Ext.drew ?_ | refine Ext.drewN ?_ _ | exact Ext.refl _))
  clear hK K
  (try simp only [Act.put]); (try simp only [List.setIfInBounds_toArray]); (try simp only [List.set_cons_succ]); (try simp only [List.set_cons_zero])
  refine wpAnyH_ready (rs := [5]) (by kernel_rfl) (by simp) ?_
  refine AllReadyH.cons rfl (fun K hK => ?_) AllReadyH.nil
  go_simp
  refine (c2.out _).mono ?_; rintro e w2 ⟨rfl, y_w2⟩; have x_w2 := Ext.trans (show Ext W _ by assumption) y_w2; clear y_w2
  (try go_wp2_with fail)
  refine hK.out _ _ ?_ (fun hHeld => ?_)
  · (try dsimp only); (repeat' (with_reducible first | assumption | refine Ext.drew ?_ | refine Ext.drewN ?_ _ | exact Ext.refl _))
  clear hK K
  (try simp only [Act.put]); (try simp only [List.setIfInBounds_toArray]); (try simp only [List.set_cons_succ]); (try simp only [List.set_cons_zero])
  refine htakeE (i := 6) (v := ?_) (some 11) rfl rfl (by kernel_rfl) (by kernel_rfl) (by kernel_rfl) (fun _ _ _ h => h) (Or.inl ⟨by rfl, ?_⟩) (by assumption) ?_; rotate_left; (focus (intro w hSw; (try dsimp only at hSw); go_simp; (try with_reducible rfl))); (try simp only [Act.put]); (try simp only [List.setIfInBounds_toArray]); (try simp only [List.set_cons_succ]); (try simp only [List.set_cons_zero])
  refine htakeE (i := 7) (v := ?_) (some 12) rfl rfl (by kernel_rfl) (by kernel_rfl) (by kernel_rfl) (fun _ _ _ h => h) (Or.inl ⟨by rfl, ?_⟩) (by assumption) ?_; rotate_left; (focus (intro w hSw; (try dsimp only at hSw); go_simp; (try with_reducible rfl))); (try simp only [Act.put]); (try simp only [List.setIfInBounds_toArray]); (try simp only [List.set_cons_succ]); (try simp only [List.set_cons_zero])
  refine wpAnyH_ready (rs := [8]) (by kernel_rfl) (by simp) ?_
  refine AllReadyH.cons rfl (fun K hK => ?_) AllReadyH.nil
  go_simp
  refine (ka.out _).mono ?_; rintro e w3 ⟨rfl, y_w3⟩; have x_w3 := Ext.trans (show Ext W _ by assumption) y_w3; clear y_w3
  (try go_wp2_with fail)
  refine hK.out _ _ ?_ (fun hHeld => ?_)
  · (try dsimp only); (repeat' (with_reducible first | assumption | refine Ext.drew ?_ | refine Ext.drewN ?_ _ | exact Ext.refl _))
  clear hK K
  (try simp only [Act.put]); (try simp only [List.setIfInBounds_toArray]); (try simp only [List.set_cons_succ]); (try simp only [List.set_cons_zero])
  refine htakeE (i := 9) (v := ?_) (some 14) rfl rfl (by kernel_rfl) (by kernel_rfl) (by kernel_rfl) (fun _ _ _ h => h) (Or.inl ⟨by rfl, ?_⟩) (by assumption) ?_; rotate_left; (focus (intro w hSw; (try dsimp only at hSw); go_simp; (try with_reducible rfl))); (try simp only [Act.put]); (try simp only [List.setIfInBounds_toArray]); (try simp only [List.set_cons_succ]); (try simp only [List.set_cons_zero])
  refine htakeE (i := 10) (v := ?_) (some 4) rfl rfl (by kernel_rfl) (by kernel_rfl) (by kernel_rfl) (fun _ _ _ h => h) (Or.inl ⟨by rfl, ?_⟩) (by assumption) ?_; rotate_left; (focus (intro w hSw; (try dsimp only at hSw); go_simp; (try with_reducible rfl))); (try simp only [Act.put]); (try simp only [List.setIfInBounds_toArray]); (try simp only [List.set_cons_succ]); (try simp only [List.set_cons_zero])
  refine wpAnyH_done (by kernel_rfl) ?_ _
  go_wp2_with fail
  go_ret
  exact ⟨rfl, X_W.out.trans (by assumption)⟩
set_option maxHeartbeats 4000000 in
theorem law_DdaPulse (a b c d i : Int) (w : World) : Calls Try.prog 5 #[.agg #[.int .i64 a, .int .i64 b, .int .i64 c, .int .i64 d], .int .i64 i] w fun e w' => e = .returned (.bool true) ∧ Ext w w' := by
  have ka := Lib.hid law_awake42
  obtain ⟨P0, P1, P2, P3, h⟩ := pulseIs_ex a b c d i
  have c1 := Lib.hid fun w => dda_Pulse a b c d i P0 P1 P2 P3 h w
  have c2 := Lib.hid fun w => ref_Pulse a b c d i P0 P1 P2 P3 h w
  have e1 := fun w => eqs_4 P0 P1 P2 P3 w
  clear h
  go_enter Try.func5, Try.ntmps5
  go_wp2_with fail
  refine wp_world fun W h_W => ?_
  have q0_W : W.cell? ⟨w.heap.size, 0, none⟩ = some (.int .i64 a) := by rw [h_W]; go_simp
  have u0_W : ∀ w', Ext W w' → w'.cell? ⟨w.heap.size, 0, none⟩ = some (.int .i64 a) := fun _ h => h.keep q0_W
  have q1_W : W.cell? ⟨w.heap.size, 1, none⟩ = some (.int .i64 b) := by rw [h_W]; go_simp
  have u1_W : ∀ w', Ext W w' → w'.cell? ⟨w.heap.size, 1, none⟩ = some (.int .i64 b) := fun _ h => h.keep q1_W
  have q2_W : W.cell? ⟨w.heap.size, 2, none⟩ = some (.int .i64 c) := by rw [h_W]; go_simp
  have u2_W : ∀ w', Ext W w' → w'.cell? ⟨w.heap.size, 2, none⟩ = some (.int .i64 c) := fun _ h => h.keep q2_W
  have q3_W : W.cell? ⟨w.heap.size, 3, none⟩ = some (.int .i64 d) := by rw [h_W]; go_simp
  have u3_W : ∀ w', Ext W w' → w'.cell? ⟨w.heap.size, 3, none⟩ = some (.int .i64 d) := fun _ h => h.keep q3_W
  have X_W := Lib.hid (show Ext w W by rw [h_W]; exact (by (repeat' (with_reducible first | refine Ext.drew ?_ | refine Ext.drewN ?_ _ | refine Ext.alloc ?_ _ | exact Ext.refl _ | fail | (refine Ext.setCell ?_ ?_ _; rotate_left; (focus ((try simp); try omega)))))))
  clear h_W
  refine wp_region_held_drew (S := fun w' => Ext W w') (by kernel_rfl) (by (try dsimp only); (repeat' (with_reducible first | assumption | refine Ext.drew ?_ | refine Ext.drewN ?_ _ | exact Ext.refl _))) (fun hHeld => ?_)
  refine htakeE (i := 0) (v := ?_) (some 5) rfl rfl (by kernel_rfl) (by kernel_rfl) (by kernel_rfl) (fun _ _ _ h => h) (Or.inl ⟨by rfl, ?_⟩) (by assumption) ?_; rotate_left; (focus (intro w hSw; (try dsimp only at hSw); go_simp; (try with_reducible rfl))); (try simp only [Act.put]); (try simp only [List.setIfInBounds_toArray]); (try simp only [List.set_cons_succ]); (try simp only [List.set_cons_zero])
  refine htakeE (i := 1) (v := ?_) (some 6) rfl rfl (by kernel_rfl) (by kernel_rfl) (by kernel_rfl) (fun _ _ _ h => h) (Or.inl ⟨by rfl, ?_⟩) (by assumption) ?_; rotate_left; (focus (intro w hSw; (try dsimp only at hSw); go_simp; (try with_reducible rfl))); (try simp only [Act.put]); (try simp only [List.setIfInBounds_toArray]); (try simp only [List.set_cons_succ]); (try simp only [List.set_cons_zero])
  refine htakeE (i := 3) (v := ?_) (some 8) rfl rfl (by kernel_rfl) (by kernel_rfl) (by kernel_rfl) (fun _ _ _ h => h) (Or.inl ⟨by rfl, ?_⟩) (by assumption) ?_; rotate_left; (focus (intro w hSw; (try dsimp only at hSw); go_simp; (try with_reducible rfl))); (try simp only [Act.put]); (try simp only [List.setIfInBounds_toArray]); (try simp only [List.set_cons_succ]); (try simp only [List.set_cons_zero])
  refine htakeE (i := 4) (v := ?_) (some 9) rfl rfl (by kernel_rfl) (by kernel_rfl) (by kernel_rfl) (fun _ _ _ h => h) (Or.inl ⟨by rfl, ?_⟩) (by assumption) ?_; rotate_left; (focus (intro w hSw; (try dsimp only at hSw); go_simp; (try with_reducible rfl))); (try simp only [Act.put]); (try simp only [List.setIfInBounds_toArray]); (try simp only [List.set_cons_succ]); (try simp only [List.set_cons_zero])
  refine wpAnyH_ready (rs := [2]) (by kernel_rfl) (by simp) ?_
  refine AllReadyH.cons rfl (fun K hK => ?_) AllReadyH.nil
  go_simp
  refine (c1.out _).mono ?_; rintro e w1 ⟨rfl, y_w1⟩; have x_w1 := Ext.trans (show Ext W _ by assumption) y_w1; clear y_w1
  (try go_wp2_with fail)
  refine hK.out _ _ ?_ (fun hHeld => ?_)
  · (try dsimp only); (repeat' (with_reducible first | assumption | refine Ext.drew ?_ | refine Ext.drewN ?_ _ | exact Ext.refl _))
  clear hK K
  (try simp only [Act.put]); (try simp only [List.setIfInBounds_toArray]); (try simp only [List.set_cons_succ]); (try simp only [List.set_cons_zero])
  refine wpAnyH_ready (rs := [5]) (by kernel_rfl) (by simp) ?_
  refine AllReadyH.cons rfl (fun K hK => ?_) AllReadyH.nil
  go_simp
  refine (c2.out _).mono ?_; rintro e w2 ⟨rfl, y_w2⟩; have x_w2 := Ext.trans (show Ext W _ by assumption) y_w2; clear y_w2
  (try go_wp2_with fail)
  refine hK.out _ _ ?_ (fun hHeld => ?_)
  · (try dsimp only); (repeat' (with_reducible first | assumption | refine Ext.drew ?_ | refine Ext.drewN ?_ _ | exact Ext.refl _))
  clear hK K
  (try simp only [Act.put]); (try simp only [List.setIfInBounds_toArray]); (try simp only [List.set_cons_succ]); (try simp only [List.set_cons_zero])
  refine htakeE (i := 6) (v := ?_) (some 11) rfl rfl (by kernel_rfl) (by kernel_rfl) (by kernel_rfl) (fun _ _ _ h => h) (Or.inl ⟨by rfl, ?_⟩) (by assumption) ?_; rotate_left; (focus (intro w hSw; (try dsimp only at hSw); go_simp; (try with_reducible rfl))); (try simp only [Act.put]); (try simp only [List.setIfInBounds_toArray]); (try simp only [List.set_cons_succ]); (try simp only [List.set_cons_zero])
  refine htakeE (i := 7) (v := ?_) (some 12) rfl rfl (by kernel_rfl) (by kernel_rfl) (by kernel_rfl) (fun _ _ _ h => h) (Or.inl ⟨by rfl, ?_⟩) (by assumption) ?_; rotate_left; (focus (intro w hSw; (try dsimp only at hSw); go_simp; (try with_reducible rfl))); (try simp only [Act.put]); (try simp only [List.setIfInBounds_toArray]); (try simp only [List.set_cons_succ]); (try simp only [List.set_cons_zero])
  refine wpAnyH_ready (rs := [8]) (by kernel_rfl) (by simp) ?_
  refine AllReadyH.cons rfl (fun K hK => ?_) AllReadyH.nil
  go_simp
  refine (ka.out _).mono ?_; rintro e w3 ⟨rfl, y_w3⟩; have x_w3 := Ext.trans (show Ext W _ by assumption) y_w3; clear y_w3
  (try go_wp2_with fail)
  refine hK.out _ _ ?_ (fun hHeld => ?_)
  · (try dsimp only); (repeat' (with_reducible first | assumption | refine Ext.drew ?_ | refine Ext.drewN ?_ _ | exact Ext.refl _))
  clear hK K
  (try simp only [Act.put]); (try simp only [List.setIfInBounds_toArray]); (try simp only [List.set_cons_succ]); (try simp only [List.set_cons_zero])
  refine htakeE (i := 9) (v := ?_) (some 14) rfl rfl (by kernel_rfl) (by kernel_rfl) (by kernel_rfl) (fun _ _ _ h => h) (Or.inl ⟨by rfl, ?_⟩) (by assumption) ?_; rotate_left; (focus (intro w hSw; (try dsimp only at hSw); go_simp; (try with_reducible rfl))); (try simp only [Act.put]); (try simp only [List.setIfInBounds_toArray]); (try simp only [List.set_cons_succ]); (try simp only [List.set_cons_zero])
  refine htakeE (i := 10) (v := ?_) (some 4) rfl rfl (by kernel_rfl) (by kernel_rfl) (by kernel_rfl) (fun _ _ _ h => h) (Or.inl ⟨by rfl, ?_⟩) (by assumption) ?_; rotate_left; (focus (intro w hSw; (try dsimp only at hSw); go_simp; (try with_reducible rfl))); (try simp only [Act.put]); (try simp only [List.setIfInBounds_toArray]); (try simp only [List.set_cons_succ]); (try simp only [List.set_cons_zero])
  refine wpAnyH_done (by kernel_rfl) ?_ _
  go_wp2_with fail
  go_ret
  exact ⟨rfl, X_W.out.trans (by assumption)⟩
end Go.Proofs.Ytnljefglidhnjaa

