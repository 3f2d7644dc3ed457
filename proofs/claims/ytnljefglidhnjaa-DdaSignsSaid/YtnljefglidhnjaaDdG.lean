/-
  The walk of the law DdaSigns: it answers true.
-/
import Derived.Test.YtnljefglidhnjaaDdE
import Derived.Test.YtnljefglidhnjaaRow4
import Derived.Deep.Cut
import Derived.Deep.RegionHeld3
namespace Go.Proofs.Ytnljefglidhnjaa
open Go.RowKit
theorem htakeG {P : Program} {ops : Array Oper} {Q : Exit → Act → World → Prop} {md : Region.Mode} {S : World → Prop} {i : Nat} {oi : Oper} {v : Value} {fuel : Nat} {listed : Array Bool} {a : Act} {w : World} (d : Option Tmp) (hi : ops[i]? = some oi) (hd : oi.dst = d)
    (hs : Region.noSelect ops = true) (hf : Region.free md ops listed i = true) (hr : (Region.ready md ops listed).contains i = true)
    (hQ : ∀ c a w, Q (.panic c) (a.put d v) w → Q (.panic c) a w) (hy : YieldsIf P ops S oi v a) (hS : S w)
    (h : wpAnyH P md ops Q S fuel (listed.setIfInBounds i true) (a.put d v) w) : wpAnyH P md ops Q S (fuel + 1) listed a w := by
  subst hd
  exact wpAnyH_take hi hs hf hr hQ hy hS h
theorem half_zero {n : Int} (hn : 1 ≤ n) : n / (2 * n) = 0 := Int.ediv_eq_zero_of_lt (by omega) (by omega)
theorem atv_neg {x n j : Int} (hn : 1 ≤ n) : atv (-x) n j = -atv x n j := by
  unfold atv
  have e : max (-x) (- -x) = max x (-x) := by omega
  rw [e]
  rcases Int.lt_trichotomy x 0 with h | h | h
  · rw [if_pos h, if_neg (by omega), Int.neg_neg]
  · subst h
    have e0 : max (0 : Int) (-0) = 0 := by omega
    rw [if_neg (by omega), if_neg (by omega), e0, Int.mul_zero, Int.zero_add, half_zero hn]
    rfl
  · rw [if_pos (by omega), if_neg (by omega)]
theorem max_neg (x : Int) : max (-x) (- -x) = max x (-x) := by omega
theorem dom_neg (a b c d : Int) : dom (-a) (-b) (-c) (-d) = dom a b c d := by unfold dom; rw [max_neg, max_neg, max_neg, max_neg]
theorem dval_neg {a b c d : Int} (h : DVal a b c d) : DVal (-a) (-b) (-c) (-d) := by unfold DVal at *; omega
theorem atv_zero {x n : Int} (hn : 1 ≤ n) : atv x n 0 = 0 := by
  unfold atv
  have : (2 * 0 * max x (-x) + n) / (2 * n) = 0 := by
    rw [Int.mul_zero, Int.zero_mul, Int.zero_add]; exact half_zero hn
  rw [this]; split <;> rfl
theorem atv_all {x n : Int} (hn : 1 ≤ n) : atv x n n = x := by
  unfold atv
  have : (2 * n * max x (-x) + n) / (2 * n) = max x (-x) := by
    rw [Int.add_comm, Int.add_mul_ediv_left _ _ (by omega), half_zero hn, Int.zero_add]
  rw [this]; split <;> omega
set_option maxHeartbeats 16000000 in
theorem law_DdaSigns_in (a b c d i n A0 A1 A2 A3 B0 B1 B2 B3 : Int) (hv : DVal a b c d) (hn : DomIs a b c d n) (hn' : DomIs (-a) (-b) (-c) (-d) n) (n0 : 1 ≤ n) (hA : AtIs a b c d i A0 A1 A2 A3) (hB : AtIs (-a) (-b) (-c) (-d) i B0 B1 B2 B3)
    (e0 : -B0 = A0) (e1 : -B1 = A1) (e2 : -B2 = A2) (e3 : -B3 = A3) (hc : (0 < i ∧ i < n) ∨ (i ≤ 0 ∧ A0 = 0 ∧ A1 = 0 ∧ A2 = 0 ∧ A3 = 0) ∨ (0 < i ∧ n ≤ i ∧ a = A0 ∧ b = A1 ∧ c = A2 ∧ d = A3)) (w : World) :
    Calls Try.prog 8 #[.agg #[.int .i64 a, .int .i64 b, .int .i64 c, .int .i64 d], .int .i64 i] w fun e w' => e = .returned (.bool true) ∧ Ext w w' := by
  have ka := Lib.hid law_awake42
  have hcase := Lib.hid hc
  have c1 := Lib.hid fun w => dda_DValid a b c d true (by rw [decide_eq_true hv]) w
  have c2 := Lib.hid fun w => dda_At a b c d i A0 A1 A2 A3 hA w
  have c3 := Lib.hid fun w => dda_At (-a) (-b) (-c) (-d) i B0 B1 B2 B3 hB w
  have c4 := Lib.hid fun w => dda_Dominant a b c d n hn w
  have c5 := Lib.hid fun w => dda_Dominant (-a) (-b) (-c) (-d) n hn' w
  obtain ⟨⟨b0, b1⟩, ⟨b2, b3⟩, ⟨b4, b5⟩, b6, b7⟩ := at_range hA
  obtain ⟨⟨a0, a1, a2, a3, a4, a5, a6, a7⟩, _⟩ := hv
  have na : IntKind.i64.wrap (-a) = -a := IntWalk.i64_in _ (by omega)
  have nb : IntKind.i64.wrap (-b) = -b := IntWalk.i64_in _ (by omega)
  have nc : IntKind.i64.wrap (-c) = -c := IntWalk.i64_in _ (by omega)
  have nd : IntKind.i64.wrap (-d) = -d := IntWalk.i64_in _ (by omega)
  have f0 : IntKind.i64.wrap (-B0) = A0 := by rw [e0]; exact IntWalk.i64_in _ (by omega)
  have f1 : IntKind.i64.wrap (-B1) = A1 := by rw [e1]; exact IntWalk.i64_in _ (by omega)
  have f2 : IntKind.i64.wrap (-B2) = A2 := by rw [e2]; exact IntWalk.i64_in _ (by omega)
  have f3 : IntKind.i64.wrap (-B3) = A3 := by rw [e3]; exact IntWalk.i64_in _ (by omega)
  have y0 := bne_f (rfl : A0 = A0)
  have y1 := bne_f (rfl : A1 = A1)
  have y2 := bne_f (rfl : A2 = A2)
  have y3 := bne_f (rfl : A3 = A3)
  clear hA hB hn hn' hc e0 e1 e2 e3 b0 b1 b2 b3 b4 b5 b6 b7 a0 a1 a2 a3 a4 a5 a6 a7
  go_enter Try.func8, Try.ntmps8
  go_wp2_with fail
  refine (c1.out _).mono ?_; rintro e w1 ⟨rfl, x_w1⟩
  obtain ⟨k_w1, f_w1⟩ := bcell x_w1
  have s_w1 := x_w1.size; (try simp at s_w1)
  have z0_w1 : w.heap.size < w1.heap.size := by omega
  have X_w1 := Lib.hid (show Ext w w1 from Ext.trans (by (repeat' (with_reducible first | refine Ext.drew ?_ | refine Ext.drewN ?_ _ | refine Ext.alloc ?_ _ | exact Ext.refl _ | fail | (refine Ext.setCell ?_ ?_ _; rotate_left; (focus ((try simp); try omega)))))) x_w1)
  clear x_w1 s_w1
  go_wp2_with fail
  go_cut [6, 7] from 27 (fun s5 s6 wx => ∃ p q, s5 = .pointer (some ⟨p, 0, none⟩) ∧ s6 = .pointer (some ⟨q, 0, none⟩) ∧ Row4 wx p A0 A1 A2 A3 ∧ Row4 wx q B0 B1 B2 B3 ∧ Row4 wx w.heap.size a b c d ∧ Row4 wx w1.heap.size (-a) (-b) (-c) (-d) ∧ Ext w wx)
  case first =>
    refine wp_world fun W h_W => ?_
    have q0_W : W.cell? ⟨w.heap.size, 0, none⟩ = some (.int .i64 a) := by rw [h_W]; go_simp
    have u0_W : ∀ w', Ext W w' → w'.cell? ⟨w.heap.size, 0, none⟩ = some (.int .i64 a) := fun _ h => h.keep q0_W
    have q1_W : W.cell? ⟨w.heap.size, 1, none⟩ = some (.int .i64 b) := by rw [h_W]; go_simp
    have u1_W : ∀ w', Ext W w' → w'.cell? ⟨w.heap.size, 1, none⟩ = some (.int .i64 b) := fun _ h => h.keep q1_W
    have q2_W : W.cell? ⟨w.heap.size, 2, none⟩ = some (.int .i64 c) := by rw [h_W]; go_simp
    have u2_W : ∀ w', Ext W w' → w'.cell? ⟨w.heap.size, 2, none⟩ = some (.int .i64 c) := fun _ h => h.keep q2_W
    have q3_W : W.cell? ⟨w.heap.size, 3, none⟩ = some (.int .i64 d) := by rw [h_W]; go_simp
    have u3_W : ∀ w', Ext W w' → w'.cell? ⟨w.heap.size, 3, none⟩ = some (.int .i64 d) := fun _ h => h.keep q3_W
    have q4_W : W.cell? ⟨w1.heap.size, 0, none⟩ = some (.int .i64 (-a)) := by rw [h_W]; go_simp
    have u4_W : ∀ w', Ext W w' → w'.cell? ⟨w1.heap.size, 0, none⟩ = some (.int .i64 (-a)) := fun _ h => h.keep q4_W
    have q5_W : W.cell? ⟨w1.heap.size, 1, none⟩ = some (.int .i64 (-b)) := by rw [h_W]; go_simp
    have u5_W : ∀ w', Ext W w' → w'.cell? ⟨w1.heap.size, 1, none⟩ = some (.int .i64 (-b)) := fun _ h => h.keep q5_W
    have q6_W : W.cell? ⟨w1.heap.size, 2, none⟩ = some (.int .i64 (-c)) := by rw [h_W]; go_simp
    have u6_W : ∀ w', Ext W w' → w'.cell? ⟨w1.heap.size, 2, none⟩ = some (.int .i64 (-c)) := fun _ h => h.keep q6_W
    have q7_W : W.cell? ⟨w1.heap.size, 3, none⟩ = some (.int .i64 (-d)) := by rw [h_W]; go_simp
    have u7_W : ∀ w', Ext W w' → w'.cell? ⟨w1.heap.size, 3, none⟩ = some (.int .i64 (-d)) := fun _ h => h.keep q7_W
    have X_W := Lib.hid (show Ext w W by rw [h_W]; exact (by (repeat' (with_reducible first | refine Ext.drew ?_ | refine Ext.drewN ?_ _ | refine Ext.alloc ?_ _ | exact Ext.refl _ | exact X_w1.out | (refine Ext.setCell ?_ ?_ _; rotate_left; (focus ((try simp); try omega)))))))
    have fz0_W : ∀ o, W.frozen? ⟨w.heap.size, o, none⟩ = false := by intro o; rw [h_W]; go_simp
    have z0_W : w.heap.size < W.heap.size := by rw [h_W]; (try simp); try omega
    have uf0_W : ∀ w', Ext W w' → ∀ o, w'.frozen? ⟨w.heap.size, o, none⟩ = false := fun _ h o => by rw [(bcell h).2 _ _ z0_W]; exact fz0_W o
    have fz1_W : ∀ o, W.frozen? ⟨w1.heap.size, o, none⟩ = false := by intro o; rw [h_W]; go_simp
    have z1_W : w1.heap.size < W.heap.size := by rw [h_W]; (try simp); try omega
    have uf1_W : ∀ w', Ext W w' → ∀ o, w'.frozen? ⟨w1.heap.size, o, none⟩ = false := fun _ h o => by rw [(bcell h).2 _ _ z1_W]; exact fz1_W o
    clear h_W
    refine wp_region_held_drew (S := fun w' => Ext W w') (by kernel_rfl) (by (try dsimp only); (repeat' (with_reducible first | assumption | refine Ext.drew ?_ | refine Ext.drewN ?_ _ | exact Ext.refl _))) (fun hHeld => ?_)
    refine htakeG (i := 0) (v := ?_) (some 27) rfl rfl (by kernel_rfl) (by kernel_rfl) (by kernel_rfl) (fun _ _ _ h => h) (Or.inl ⟨by rfl, ?_⟩) (by assumption) ?_; rotate_left; (focus (intro w hSw; (try dsimp only at hSw); go_simp; (try with_reducible rfl))); (try simp only [Act.put]); (try simp only [List.setIfInBounds_toArray]); (try simp only [List.set_cons_succ]); (try simp only [List.set_cons_zero])
    refine htakeG (i := 1) (v := ?_) (some 28) rfl rfl (by kernel_rfl) (by kernel_rfl) (by kernel_rfl) (fun _ _ _ h => h) (Or.inl ⟨by rfl, ?_⟩) (by assumption) ?_; rotate_left; (focus (intro w hSw; (try dsimp only at hSw); go_simp; (try with_reducible rfl))); (try simp only [Act.put]); (try simp only [List.setIfInBounds_toArray]); (try simp only [List.set_cons_succ]); (try simp only [List.set_cons_zero])
    refine htakeG (i := 3) (v := ?_) (some 30) rfl rfl (by kernel_rfl) (by kernel_rfl) (by kernel_rfl) (fun _ _ _ h => h) (Or.inl ⟨by rfl, ?_⟩) (by assumption) ?_; rotate_left; (focus (intro w hSw; (try dsimp only at hSw); go_simp; (try with_reducible rfl))); (try simp only [Act.put]); (try simp only [List.setIfInBounds_toArray]); (try simp only [List.set_cons_succ]); (try simp only [List.set_cons_zero])
    refine htakeG (i := 4) (v := ?_) (some 31) rfl rfl (by kernel_rfl) (by kernel_rfl) (by kernel_rfl) (fun _ _ _ h => h) (Or.inl ⟨by rfl, ?_⟩) (by assumption) ?_; rotate_left; (focus (intro w hSw; (try dsimp only at hSw); go_simp; (try with_reducible rfl))); (try simp only [Act.put]); (try simp only [List.setIfInBounds_toArray]); (try simp only [List.set_cons_succ]); (try simp only [List.set_cons_zero])
    refine wpAnyH_ready (rs := [2, 6, 7]) (by kernel_rfl) (by simp) ?_
    refine AllReadyH.cons rfl (fun K hK => ?_) (AllReadyH.cons rfl (fun K hK => ?_) (AllReadyH.cons rfl (fun K hK => ?_) (AllReadyH.nil)))
    · go_simp
      refine (c2.out _).mono ?_; rintro e v1 ⟨rfl, y_v1⟩
      have s_v1 := y_v1.size; (try simp at s_v1)
      have z0_v1 : w.heap.size < v1.heap.size := by omega
      have z1_v1 : w1.heap.size < v1.heap.size := by omega
      have x_v1 := Ext.trans (show Ext W _ by assumption) y_v1
      have l_v1 := Ext.le x_v1
      clear y_v1 s_v1
      (try go_wp2_with fail)
      refine hK.out _ _ ?_ (fun hHeld => ?_)
      · (try dsimp only); (repeat' (with_reducible first | assumption | refine Ext.drew ?_ | refine Ext.drewN ?_ _ | refine Ext.alloc ?_ _ | exact Ext.refl _ | (refine Ext.setCell ?_ ?_ _; rotate_left; (focus ((try simp); try omega)))))
      clear hK K
      (try simp only [Act.put]); (try simp only [List.setIfInBounds_toArray]); (try simp only [List.set_cons_succ]); (try simp only [List.set_cons_zero])
      refine wpAnyH_ready (rs := [5, 6, 7]) (by kernel_rfl) (by simp) ?_
      refine AllReadyH.cons rfl (fun K hK => ?_) (AllReadyH.cons rfl (fun K hK => ?_) (AllReadyH.cons rfl (fun K hK => ?_) (AllReadyH.nil)))
      · go_simp
        refine (c3.out _).mono ?_; rintro e v2 ⟨rfl, y_v2⟩
        have s_v2 := y_v2.size; (try simp at s_v2)
        have z0_v2 : w.heap.size < v2.heap.size := by omega
        have z1_v2 : w1.heap.size < v2.heap.size := by omega
        have x_v2 := Ext.trans (show Ext W _ by assumption) y_v2
        have l_v2 := Ext.le x_v2
        clear y_v2 s_v2
        (try go_wp2_with fail)
        refine hK.out _ _ ?_ (fun hHeld => ?_)
        · (try dsimp only); (repeat' (with_reducible first | assumption | refine Ext.drew ?_ | refine Ext.drewN ?_ _ | refine Ext.alloc ?_ _ | exact Ext.refl _ | (refine Ext.setCell ?_ ?_ _; rotate_left; (focus ((try simp); try omega)))))
        clear hK K
        (try simp only [Act.put]); (try simp only [List.setIfInBounds_toArray]); (try simp only [List.set_cons_succ]); (try simp only [List.set_cons_zero])
        refine wpAnyH_ready (rs := [6, 7]) (by kernel_rfl) (by simp) ?_
        refine AllReadyH.cons rfl (fun K hK => ?_) (AllReadyH.cons rfl (fun K hK => ?_) (AllReadyH.nil))
        · go_simp
          refine hK.out _ _ ?_ (fun hHeld => ?_)
          · (try dsimp only); (repeat' (with_reducible first | assumption | refine Ext.drew ?_ | refine Ext.drewN ?_ _ | refine Ext.alloc ?_ _ | exact Ext.refl _ | (refine Ext.setCell ?_ ?_ _; rotate_left; (focus ((try simp); try omega)))))
          clear hK K
          (try simp only [Act.put]); (try simp only [List.setIfInBounds_toArray]); (try simp only [List.set_cons_succ]); (try simp only [List.set_cons_zero])
          refine wpAnyH_ready (rs := [7]) (by kernel_rfl) (by simp) ?_
          refine AllReadyH.cons rfl (fun K hK => ?_) (AllReadyH.nil)
          go_simp
          refine hK.out _ _ ?_ (fun hHeld => ?_)
          · (try dsimp only); (repeat' (with_reducible first | assumption | refine Ext.drew ?_ | refine Ext.drewN ?_ _ | refine Ext.alloc ?_ _ | exact Ext.refl _ | (refine Ext.setCell ?_ ?_ _; rotate_left; (focus ((try simp); try omega)))))
          clear hK K
          (try simp only [Act.put]); (try simp only [List.setIfInBounds_toArray]); (try simp only [List.set_cons_succ]); (try simp only [List.set_cons_zero])
          refine wpAnyH_ready (rs := [8]) (by kernel_rfl) (by simp) ?_
          refine AllReadyH.cons rfl (fun K hK => ?_) (AllReadyH.nil)
          go_simp
          refine hK.out _ _ ?_ (fun hHeld => ?_)
          · (try dsimp only); (repeat' (with_reducible first | assumption | refine Ext.drew ?_ | refine Ext.drewN ?_ _ | refine Ext.alloc ?_ _ | exact Ext.refl _ | (refine Ext.setCell ?_ ?_ _; rotate_left; (focus ((try simp); try omega)))))
          clear hK K
          (try simp only [Act.put]); (try simp only [List.setIfInBounds_toArray]); (try simp only [List.set_cons_succ]); (try simp only [List.set_cons_zero])
          refine wpAnyH_ready (rs := [9]) (by kernel_rfl) (by simp) ?_
          refine AllReadyH.cons rfl (fun K hK => ?_) (AllReadyH.nil)
          go_simp
          refine hK.out _ _ ?_ (fun hHeld => ?_)
          · (try dsimp only); (repeat' (with_reducible first | assumption | refine Ext.drew ?_ | refine Ext.drewN ?_ _ | refine Ext.alloc ?_ _ | exact Ext.refl _ | (refine Ext.setCell ?_ ?_ _; rotate_left; (focus ((try simp); try omega)))))
          clear hK K
          (try simp only [Act.put]); (try simp only [List.setIfInBounds_toArray]); (try simp only [List.set_cons_succ]); (try simp only [List.set_cons_zero])
          refine wpAnyH_done (by kernel_rfl) ?_ _
          go_wp2_with fail
          go_meet
          case rel =>
            refine ⟨v2.heap.size, v2.heap.size + 1, rfl, rfl, ?_, ?_, ?_, ?_, ?_⟩
            · refine ⟨by go_simp, by go_simp, by go_simp, by go_simp, fun o => by go_simp, by (try simp); try omega⟩
            · refine ⟨by go_simp, by go_simp, by go_simp, by go_simp, fun o => by go_simp, by (try simp); try omega⟩
            · refine ⟨by go_simp, by go_simp, by go_simp, by go_simp, fun o => by go_simp, by (try simp); try omega⟩
            · refine ⟨by go_simp, by go_simp, by go_simp, by go_simp, fun o => by go_simp, by (try simp); try omega⟩
            · exact X_W.out.trans hHeld
        · go_simp
          refine hK.out _ _ ?_ (fun hHeld => ?_)
          · (try dsimp only); (repeat' (with_reducible first | assumption | refine Ext.drew ?_ | refine Ext.drewN ?_ _ | refine Ext.alloc ?_ _ | exact Ext.refl _ | (refine Ext.setCell ?_ ?_ _; rotate_left; (focus ((try simp); try omega)))))
          clear hK K
          (try simp only [Act.put]); (try simp only [List.setIfInBounds_toArray]); (try simp only [List.set_cons_succ]); (try simp only [List.set_cons_zero])
          refine wpAnyH_ready (rs := [6]) (by kernel_rfl) (by simp) ?_
          refine AllReadyH.cons rfl (fun K hK => ?_) (AllReadyH.nil)
          go_simp
          refine hK.out _ _ ?_ (fun hHeld => ?_)
          · (try dsimp only); (repeat' (with_reducible first | assumption | refine Ext.drew ?_ | refine Ext.drewN ?_ _ | refine Ext.alloc ?_ _ | exact Ext.refl _ | (refine Ext.setCell ?_ ?_ _; rotate_left; (focus ((try simp); try omega)))))
          clear hK K
          (try simp only [Act.put]); (try simp only [List.setIfInBounds_toArray]); (try simp only [List.set_cons_succ]); (try simp only [List.set_cons_zero])
          refine wpAnyH_ready (rs := [8]) (by kernel_rfl) (by simp) ?_
          refine AllReadyH.cons rfl (fun K hK => ?_) (AllReadyH.nil)
          go_simp
          refine hK.out _ _ ?_ (fun hHeld => ?_)
          · (try dsimp only); (repeat' (with_reducible first | assumption | refine Ext.drew ?_ | refine Ext.drewN ?_ _ | refine Ext.alloc ?_ _ | exact Ext.refl _ | (refine Ext.setCell ?_ ?_ _; rotate_left; (focus ((try simp); try omega)))))
          clear hK K
          (try simp only [Act.put]); (try simp only [List.setIfInBounds_toArray]); (try simp only [List.set_cons_succ]); (try simp only [List.set_cons_zero])
          refine wpAnyH_ready (rs := [9]) (by kernel_rfl) (by simp) ?_
          refine AllReadyH.cons rfl (fun K hK => ?_) (AllReadyH.nil)
          go_simp
          refine hK.out _ _ ?_ (fun hHeld => ?_)
          · (try dsimp only); (repeat' (with_reducible first | assumption | refine Ext.drew ?_ | refine Ext.drewN ?_ _ | refine Ext.alloc ?_ _ | exact Ext.refl _ | (refine Ext.setCell ?_ ?_ _; rotate_left; (focus ((try simp); try omega)))))
          clear hK K
          (try simp only [Act.put]); (try simp only [List.setIfInBounds_toArray]); (try simp only [List.set_cons_succ]); (try simp only [List.set_cons_zero])
          refine wpAnyH_done (by kernel_rfl) ?_ _
          go_wp2_with fail
          go_meet
          case rel =>
            refine ⟨v2.heap.size + 1, v2.heap.size, rfl, rfl, ?_, ?_, ?_, ?_, ?_⟩
            · refine ⟨by go_simp, by go_simp, by go_simp, by go_simp, fun o => by go_simp, by (try simp); try omega⟩
            · refine ⟨by go_simp, by go_simp, by go_simp, by go_simp, fun o => by go_simp, by (try simp); try omega⟩
            · refine ⟨by go_simp, by go_simp, by go_simp, by go_simp, fun o => by go_simp, by (try simp); try omega⟩
            · refine ⟨by go_simp, by go_simp, by go_simp, by go_simp, fun o => by go_simp, by (try simp); try omega⟩
            · exact X_W.out.trans hHeld
      · go_simp
        refine hK.out _ _ ?_ (fun hHeld => ?_)
        · (try dsimp only); (repeat' (with_reducible first | assumption | refine Ext.drew ?_ | refine Ext.drewN ?_ _ | refine Ext.alloc ?_ _ | exact Ext.refl _ | (refine Ext.setCell ?_ ?_ _; rotate_left; (focus ((try simp); try omega)))))
        clear hK K
        (try simp only [Act.put]); (try simp only [List.setIfInBounds_toArray]); (try simp only [List.set_cons_succ]); (try simp only [List.set_cons_zero])
        refine wpAnyH_ready (rs := [5, 7]) (by kernel_rfl) (by simp) ?_
        refine AllReadyH.cons rfl (fun K hK => ?_) (AllReadyH.cons rfl (fun K hK => ?_) (AllReadyH.nil))
        · go_simp
          refine (c3.out _).mono ?_; rintro e v3 ⟨rfl, y_v3⟩
          have s_v3 := y_v3.size; (try simp at s_v3)
          have z0_v3 : w.heap.size < v3.heap.size := by omega
          have z1_v3 : w1.heap.size < v3.heap.size := by omega
          have z2_v3 : v1.heap.size < v3.heap.size := by omega
          have q2_0_v3 : v3.cell? ⟨v1.heap.size, 0, none⟩ = some (.int .i64 0) := y_v3.keep (by go_simp)
          have q2_1_v3 : v3.cell? ⟨v1.heap.size, 1, none⟩ = some (.int .i64 0) := y_v3.keep (by go_simp)
          have q2_2_v3 : v3.cell? ⟨v1.heap.size, 2, none⟩ = some (.int .i64 0) := y_v3.keep (by go_simp)
          have q2_3_v3 : v3.cell? ⟨v1.heap.size, 3, none⟩ = some (.int .i64 0) := y_v3.keep (by go_simp)
          have fz2_v3 : ∀ o, v3.frozen? ⟨v1.heap.size, o, none⟩ = false := by intro o; rw [(bcell y_v3).2 _ _ (by first | omega | (simp; done) | (simp; omega))]; go_simp
          have x_v3 := Ext.trans (show Ext W _ by assumption) y_v3
          have l_v3 := Ext.le x_v3
          clear y_v3 s_v3
          (try go_wp2_with fail)
          refine hK.out _ _ ?_ (fun hHeld => ?_)
          · (try dsimp only); (repeat' (with_reducible first | assumption | refine Ext.drew ?_ | refine Ext.drewN ?_ _ | refine Ext.alloc ?_ _ | exact Ext.refl _ | (refine Ext.setCell ?_ ?_ _; rotate_left; (focus ((try simp); try omega)))))
          clear hK K
          (try simp only [Act.put]); (try simp only [List.setIfInBounds_toArray]); (try simp only [List.set_cons_succ]); (try simp only [List.set_cons_zero])
          refine wpAnyH_ready (rs := [7]) (by kernel_rfl) (by simp) ?_
          refine AllReadyH.cons rfl (fun K hK => ?_) (AllReadyH.nil)
          go_simp
          refine hK.out _ _ ?_ (fun hHeld => ?_)
          · (try dsimp only); (repeat' (with_reducible first | assumption | refine Ext.drew ?_ | refine Ext.drewN ?_ _ | refine Ext.alloc ?_ _ | exact Ext.refl _ | (refine Ext.setCell ?_ ?_ _; rotate_left; (focus ((try simp); try omega)))))
          clear hK K
          (try simp only [Act.put]); (try simp only [List.setIfInBounds_toArray]); (try simp only [List.set_cons_succ]); (try simp only [List.set_cons_zero])
          refine wpAnyH_ready (rs := [8]) (by kernel_rfl) (by simp) ?_
          refine AllReadyH.cons rfl (fun K hK => ?_) (AllReadyH.nil)
          go_simp
          refine hK.out _ _ ?_ (fun hHeld => ?_)
          · (try dsimp only); (repeat' (with_reducible first | assumption | refine Ext.drew ?_ | refine Ext.drewN ?_ _ | refine Ext.alloc ?_ _ | exact Ext.refl _ | (refine Ext.setCell ?_ ?_ _; rotate_left; (focus ((try simp); try omega)))))
          clear hK K
          (try simp only [Act.put]); (try simp only [List.setIfInBounds_toArray]); (try simp only [List.set_cons_succ]); (try simp only [List.set_cons_zero])
          refine wpAnyH_ready (rs := [9]) (by kernel_rfl) (by simp) ?_
          refine AllReadyH.cons rfl (fun K hK => ?_) (AllReadyH.nil)
          go_simp
          refine hK.out _ _ ?_ (fun hHeld => ?_)
          · (try dsimp only); (repeat' (with_reducible first | assumption | refine Ext.drew ?_ | refine Ext.drewN ?_ _ | refine Ext.alloc ?_ _ | exact Ext.refl _ | (refine Ext.setCell ?_ ?_ _; rotate_left; (focus ((try simp); try omega)))))
          clear hK K
          (try simp only [Act.put]); (try simp only [List.setIfInBounds_toArray]); (try simp only [List.set_cons_succ]); (try simp only [List.set_cons_zero])
          refine wpAnyH_done (by kernel_rfl) ?_ _
          go_wp2_with fail
          go_meet
          case rel =>
            refine ⟨v1.heap.size, v3.heap.size, rfl, rfl, ?_, ?_, ?_, ?_, ?_⟩
            · refine ⟨by go_simp, by go_simp, by go_simp, by go_simp, fun o => by go_simp, by (try simp); try omega⟩
            · refine ⟨by go_simp, by go_simp, by go_simp, by go_simp, fun o => by go_simp, by (try simp); try omega⟩
            · refine ⟨by go_simp, by go_simp, by go_simp, by go_simp, fun o => by go_simp, by (try simp); try omega⟩
            · refine ⟨by go_simp, by go_simp, by go_simp, by go_simp, fun o => by go_simp, by (try simp); try omega⟩
            · exact X_W.out.trans hHeld
        · go_simp
          refine hK.out _ _ ?_ (fun hHeld => ?_)
          · (try dsimp only); (repeat' (with_reducible first | assumption | refine Ext.drew ?_ | refine Ext.drewN ?_ _ | refine Ext.alloc ?_ _ | exact Ext.refl _ | (refine Ext.setCell ?_ ?_ _; rotate_left; (focus ((try simp); try omega)))))
          clear hK K
          (try simp only [Act.put]); (try simp only [List.setIfInBounds_toArray]); (try simp only [List.set_cons_succ]); (try simp only [List.set_cons_zero])
          refine wpAnyH_ready (rs := [5]) (by kernel_rfl) (by simp) ?_
          refine AllReadyH.cons rfl (fun K hK => ?_) (AllReadyH.nil)
          go_simp
          refine (c3.out _).mono ?_; rintro e v4 ⟨rfl, y_v4⟩
          have s_v4 := y_v4.size; (try simp at s_v4)
          have z0_v4 : w.heap.size < v4.heap.size := by omega
          have z1_v4 : w1.heap.size < v4.heap.size := by omega
          have z2_v4 : v1.heap.size < v4.heap.size := by omega
          have z3_v4 : v1.heap.size + 1 < v4.heap.size := by omega
          have q2_0_v4 : v4.cell? ⟨v1.heap.size, 0, none⟩ = some (.int .i64 0) := y_v4.keep (by go_simp)
          have q2_1_v4 : v4.cell? ⟨v1.heap.size, 1, none⟩ = some (.int .i64 0) := y_v4.keep (by go_simp)
          have q2_2_v4 : v4.cell? ⟨v1.heap.size, 2, none⟩ = some (.int .i64 0) := y_v4.keep (by go_simp)
          have q2_3_v4 : v4.cell? ⟨v1.heap.size, 3, none⟩ = some (.int .i64 0) := y_v4.keep (by go_simp)
          have fz2_v4 : ∀ o, v4.frozen? ⟨v1.heap.size, o, none⟩ = false := by intro o; rw [(bcell y_v4).2 _ _ (by first | omega | (simp; done) | (simp; omega))]; go_simp
          have q3_0_v4 : v4.cell? ⟨v1.heap.size + 1, 0, none⟩ = some (.int .i64 0) := y_v4.keep (by go_simp)
          have q3_1_v4 : v4.cell? ⟨v1.heap.size + 1, 1, none⟩ = some (.int .i64 0) := y_v4.keep (by go_simp)
          have q3_2_v4 : v4.cell? ⟨v1.heap.size + 1, 2, none⟩ = some (.int .i64 0) := y_v4.keep (by go_simp)
          have q3_3_v4 : v4.cell? ⟨v1.heap.size + 1, 3, none⟩ = some (.int .i64 0) := y_v4.keep (by go_simp)
          have fz3_v4 : ∀ o, v4.frozen? ⟨v1.heap.size + 1, o, none⟩ = false := by intro o; rw [(bcell y_v4).2 _ _ (by first | omega | (simp; done) | (simp; omega))]; go_simp
          have x_v4 := Ext.trans (show Ext W _ by assumption) y_v4
          have l_v4 := Ext.le x_v4
          clear y_v4 s_v4
          (try go_wp2_with fail)
          refine hK.out _ _ ?_ (fun hHeld => ?_)
          · (try dsimp only); (repeat' (with_reducible first | assumption | refine Ext.drew ?_ | refine Ext.drewN ?_ _ | refine Ext.alloc ?_ _ | exact Ext.refl _ | (refine Ext.setCell ?_ ?_ _; rotate_left; (focus ((try simp); try omega)))))
          clear hK K
          (try simp only [Act.put]); (try simp only [List.setIfInBounds_toArray]); (try simp only [List.set_cons_succ]); (try simp only [List.set_cons_zero])
          refine wpAnyH_ready (rs := [8]) (by kernel_rfl) (by simp) ?_
          refine AllReadyH.cons rfl (fun K hK => ?_) (AllReadyH.nil)
          go_simp
          refine hK.out _ _ ?_ (fun hHeld => ?_)
          · (try dsimp only); (repeat' (with_reducible first | assumption | refine Ext.drew ?_ | refine Ext.drewN ?_ _ | refine Ext.alloc ?_ _ | exact Ext.refl _ | (refine Ext.setCell ?_ ?_ _; rotate_left; (focus ((try simp); try omega)))))
          clear hK K
          (try simp only [Act.put]); (try simp only [List.setIfInBounds_toArray]); (try simp only [List.set_cons_succ]); (try simp only [List.set_cons_zero])
          refine wpAnyH_ready (rs := [9]) (by kernel_rfl) (by simp) ?_
          refine AllReadyH.cons rfl (fun K hK => ?_) (AllReadyH.nil)
          go_simp
          refine hK.out _ _ ?_ (fun hHeld => ?_)
          · (try dsimp only); (repeat' (with_reducible first | assumption | refine Ext.drew ?_ | refine Ext.drewN ?_ _ | refine Ext.alloc ?_ _ | exact Ext.refl _ | (refine Ext.setCell ?_ ?_ _; rotate_left; (focus ((try simp); try omega)))))
          clear hK K
          (try simp only [Act.put]); (try simp only [List.setIfInBounds_toArray]); (try simp only [List.set_cons_succ]); (try simp only [List.set_cons_zero])
          refine wpAnyH_done (by kernel_rfl) ?_ _
          go_wp2_with fail
          go_meet
          case rel =>
            refine ⟨v1.heap.size, v1.heap.size + 1, rfl, rfl, ?_, ?_, ?_, ?_, ?_⟩
            · refine ⟨by go_simp, by go_simp, by go_simp, by go_simp, fun o => by go_simp, by (try simp); try omega⟩
            · refine ⟨by go_simp, by go_simp, by go_simp, by go_simp, fun o => by go_simp, by (try simp); try omega⟩
            · refine ⟨by go_simp, by go_simp, by go_simp, by go_simp, fun o => by go_simp, by (try simp); try omega⟩
            · refine ⟨by go_simp, by go_simp, by go_simp, by go_simp, fun o => by go_simp, by (try simp); try omega⟩
            · exact X_W.out.trans hHeld
      · go_simp
        refine hK.out _ _ ?_ (fun hHeld => ?_)
        · (try dsimp only); (repeat' (with_reducible first | assumption | refine Ext.drew ?_ | refine Ext.drewN ?_ _ | refine Ext.alloc ?_ _ | exact Ext.refl _ | (refine Ext.setCell ?_ ?_ _; rotate_left; (focus ((try simp); try omega)))))
        clear hK K
        (try simp only [Act.put]); (try simp only [List.setIfInBounds_toArray]); (try simp only [List.set_cons_succ]); (try simp only [List.set_cons_zero])
        refine wpAnyH_ready (rs := [5, 6]) (by kernel_rfl) (by simp) ?_
        refine AllReadyH.cons rfl (fun K hK => ?_) (AllReadyH.cons rfl (fun K hK => ?_) (AllReadyH.nil))
        · go_simp
          refine (c3.out _).mono ?_; rintro e v5 ⟨rfl, y_v5⟩
          have s_v5 := y_v5.size; (try simp at s_v5)
          have z0_v5 : w.heap.size < v5.heap.size := by omega
          have z1_v5 : w1.heap.size < v5.heap.size := by omega
          have z2_v5 : v1.heap.size < v5.heap.size := by omega
          have q2_0_v5 : v5.cell? ⟨v1.heap.size, 0, none⟩ = some (.int .i64 0) := y_v5.keep (by go_simp)
          have q2_1_v5 : v5.cell? ⟨v1.heap.size, 1, none⟩ = some (.int .i64 0) := y_v5.keep (by go_simp)
          have q2_2_v5 : v5.cell? ⟨v1.heap.size, 2, none⟩ = some (.int .i64 0) := y_v5.keep (by go_simp)
          have q2_3_v5 : v5.cell? ⟨v1.heap.size, 3, none⟩ = some (.int .i64 0) := y_v5.keep (by go_simp)
          have fz2_v5 : ∀ o, v5.frozen? ⟨v1.heap.size, o, none⟩ = false := by intro o; rw [(bcell y_v5).2 _ _ (by first | omega | (simp; done) | (simp; omega))]; go_simp
          have x_v5 := Ext.trans (show Ext W _ by assumption) y_v5
          have l_v5 := Ext.le x_v5
          clear y_v5 s_v5
          (try go_wp2_with fail)
          refine hK.out _ _ ?_ (fun hHeld => ?_)
          · (try dsimp only); (repeat' (with_reducible first | assumption | refine Ext.drew ?_ | refine Ext.drewN ?_ _ | refine Ext.alloc ?_ _ | exact Ext.refl _ | (refine Ext.setCell ?_ ?_ _; rotate_left; (focus ((try simp); try omega)))))
          clear hK K
          (try simp only [Act.put]); (try simp only [List.setIfInBounds_toArray]); (try simp only [List.set_cons_succ]); (try simp only [List.set_cons_zero])
          refine wpAnyH_ready (rs := [6]) (by kernel_rfl) (by simp) ?_
          refine AllReadyH.cons rfl (fun K hK => ?_) (AllReadyH.nil)
          go_simp
          refine hK.out _ _ ?_ (fun hHeld => ?_)
          · (try dsimp only); (repeat' (with_reducible first | assumption | refine Ext.drew ?_ | refine Ext.drewN ?_ _ | refine Ext.alloc ?_ _ | exact Ext.refl _ | (refine Ext.setCell ?_ ?_ _; rotate_left; (focus ((try simp); try omega)))))
          clear hK K
          (try simp only [Act.put]); (try simp only [List.setIfInBounds_toArray]); (try simp only [List.set_cons_succ]); (try simp only [List.set_cons_zero])
          refine wpAnyH_ready (rs := [8]) (by kernel_rfl) (by simp) ?_
          refine AllReadyH.cons rfl (fun K hK => ?_) (AllReadyH.nil)
          go_simp
          refine hK.out _ _ ?_ (fun hHeld => ?_)
          · (try dsimp only); (repeat' (with_reducible first | assumption | refine Ext.drew ?_ | refine Ext.drewN ?_ _ | refine Ext.alloc ?_ _ | exact Ext.refl _ | (refine Ext.setCell ?_ ?_ _; rotate_left; (focus ((try simp); try omega)))))
          clear hK K
          (try simp only [Act.put]); (try simp only [List.setIfInBounds_toArray]); (try simp only [List.set_cons_succ]); (try simp only [List.set_cons_zero])
          refine wpAnyH_ready (rs := [9]) (by kernel_rfl) (by simp) ?_
          refine AllReadyH.cons rfl (fun K hK => ?_) (AllReadyH.nil)
          go_simp
          refine hK.out _ _ ?_ (fun hHeld => ?_)
          · (try dsimp only); (repeat' (with_reducible first | assumption | refine Ext.drew ?_ | refine Ext.drewN ?_ _ | refine Ext.alloc ?_ _ | exact Ext.refl _ | (refine Ext.setCell ?_ ?_ _; rotate_left; (focus ((try simp); try omega)))))
          clear hK K
          (try simp only [Act.put]); (try simp only [List.setIfInBounds_toArray]); (try simp only [List.set_cons_succ]); (try simp only [List.set_cons_zero])
          refine wpAnyH_done (by kernel_rfl) ?_ _
          go_wp2_with fail
          go_meet
          case rel =>
            refine ⟨v5.heap.size, v1.heap.size, rfl, rfl, ?_, ?_, ?_, ?_, ?_⟩
            · refine ⟨by go_simp, by go_simp, by go_simp, by go_simp, fun o => by go_simp, by (try simp); try omega⟩
            · refine ⟨by go_simp, by go_simp, by go_simp, by go_simp, fun o => by go_simp, by (try simp); try omega⟩
            · refine ⟨by go_simp, by go_simp, by go_simp, by go_simp, fun o => by go_simp, by (try simp); try omega⟩
            · refine ⟨by go_simp, by go_simp, by go_simp, by go_simp, fun o => by go_simp, by (try simp); try omega⟩
            · exact X_W.out.trans hHeld
        · go_simp
          refine hK.out _ _ ?_ (fun hHeld => ?_)
          · (try dsimp only); (repeat' (with_reducible first | assumption | refine Ext.drew ?_ | refine Ext.drewN ?_ _ | refine Ext.alloc ?_ _ | exact Ext.refl _ | (refine Ext.setCell ?_ ?_ _; rotate_left; (focus ((try simp); try omega)))))
          clear hK K
          (try simp only [Act.put]); (try simp only [List.setIfInBounds_toArray]); (try simp only [List.set_cons_succ]); (try simp only [List.set_cons_zero])
          refine wpAnyH_ready (rs := [5]) (by kernel_rfl) (by simp) ?_
          refine AllReadyH.cons rfl (fun K hK => ?_) (AllReadyH.nil)
          go_simp
          refine (c3.out _).mono ?_; rintro e v6 ⟨rfl, y_v6⟩
          have s_v6 := y_v6.size; (try simp at s_v6)
          have z0_v6 : w.heap.size < v6.heap.size := by omega
          have z1_v6 : w1.heap.size < v6.heap.size := by omega
          have z2_v6 : v1.heap.size < v6.heap.size := by omega
          have z3_v6 : v1.heap.size + 1 < v6.heap.size := by omega
          have q2_0_v6 : v6.cell? ⟨v1.heap.size, 0, none⟩ = some (.int .i64 0) := y_v6.keep (by go_simp)
          have q2_1_v6 : v6.cell? ⟨v1.heap.size, 1, none⟩ = some (.int .i64 0) := y_v6.keep (by go_simp)
          have q2_2_v6 : v6.cell? ⟨v1.heap.size, 2, none⟩ = some (.int .i64 0) := y_v6.keep (by go_simp)
          have q2_3_v6 : v6.cell? ⟨v1.heap.size, 3, none⟩ = some (.int .i64 0) := y_v6.keep (by go_simp)
          have fz2_v6 : ∀ o, v6.frozen? ⟨v1.heap.size, o, none⟩ = false := by intro o; rw [(bcell y_v6).2 _ _ (by first | omega | (simp; done) | (simp; omega))]; go_simp
          have q3_0_v6 : v6.cell? ⟨v1.heap.size + 1, 0, none⟩ = some (.int .i64 0) := y_v6.keep (by go_simp)
          have q3_1_v6 : v6.cell? ⟨v1.heap.size + 1, 1, none⟩ = some (.int .i64 0) := y_v6.keep (by go_simp)
          have q3_2_v6 : v6.cell? ⟨v1.heap.size + 1, 2, none⟩ = some (.int .i64 0) := y_v6.keep (by go_simp)
          have q3_3_v6 : v6.cell? ⟨v1.heap.size + 1, 3, none⟩ = some (.int .i64 0) := y_v6.keep (by go_simp)
          have fz3_v6 : ∀ o, v6.frozen? ⟨v1.heap.size + 1, o, none⟩ = false := by intro o; rw [(bcell y_v6).2 _ _ (by first | omega | (simp; done) | (simp; omega))]; go_simp
          have x_v6 := Ext.trans (show Ext W _ by assumption) y_v6
          have l_v6 := Ext.le x_v6
          clear y_v6 s_v6
          (try go_wp2_with fail)
          refine hK.out _ _ ?_ (fun hHeld => ?_)
          · (try dsimp only); (repeat' (with_reducible first | assumption | refine Ext.drew ?_ | refine Ext.drewN ?_ _ | refine Ext.alloc ?_ _ | exact Ext.refl _ | (refine Ext.setCell ?_ ?_ _; rotate_left; (focus ((try simp); try omega)))))
          clear hK K
          (try simp only [Act.put]); (try simp only [List.setIfInBounds_toArray]); (try simp only [List.set_cons_succ]); (try simp only [List.set_cons_zero])
          refine wpAnyH_ready (rs := [8]) (by kernel_rfl) (by simp) ?_
          refine AllReadyH.cons rfl (fun K hK => ?_) (AllReadyH.nil)
          go_simp
          refine hK.out _ _ ?_ (fun hHeld => ?_)
          · (try dsimp only); (repeat' (with_reducible first | assumption | refine Ext.drew ?_ | refine Ext.drewN ?_ _ | refine Ext.alloc ?_ _ | exact Ext.refl _ | (refine Ext.setCell ?_ ?_ _; rotate_left; (focus ((try simp); try omega)))))
          clear hK K
          (try simp only [Act.put]); (try simp only [List.setIfInBounds_toArray]); (try simp only [List.set_cons_succ]); (try simp only [List.set_cons_zero])
          refine wpAnyH_ready (rs := [9]) (by kernel_rfl) (by simp) ?_
          refine AllReadyH.cons rfl (fun K hK => ?_) (AllReadyH.nil)
          go_simp
          refine hK.out _ _ ?_ (fun hHeld => ?_)
          · (try dsimp only); (repeat' (with_reducible first | assumption | refine Ext.drew ?_ | refine Ext.drewN ?_ _ | refine Ext.alloc ?_ _ | exact Ext.refl _ | (refine Ext.setCell ?_ ?_ _; rotate_left; (focus ((try simp); try omega)))))
          clear hK K
          (try simp only [Act.put]); (try simp only [List.setIfInBounds_toArray]); (try simp only [List.set_cons_succ]); (try simp only [List.set_cons_zero])
          refine wpAnyH_done (by kernel_rfl) ?_ _
          go_wp2_with fail
          go_meet
          case rel =>
            refine ⟨v1.heap.size + 1, v1.heap.size, rfl, rfl, ?_, ?_, ?_, ?_, ?_⟩
            · refine ⟨by go_simp, by go_simp, by go_simp, by go_simp, fun o => by go_simp, by (try simp); try omega⟩
            · refine ⟨by go_simp, by go_simp, by go_simp, by go_simp, fun o => by go_simp, by (try simp); try omega⟩
            · refine ⟨by go_simp, by go_simp, by go_simp, by go_simp, fun o => by go_simp, by (try simp); try omega⟩
            · refine ⟨by go_simp, by go_simp, by go_simp, by go_simp, fun o => by go_simp, by (try simp); try omega⟩
            · exact X_W.out.trans hHeld
    · go_simp
      refine hK.out _ _ ?_ (fun hHeld => ?_)
      · (try dsimp only); (repeat' (with_reducible first | assumption | refine Ext.drew ?_ | refine Ext.drewN ?_ _ | refine Ext.alloc ?_ _ | exact Ext.refl _ | (refine Ext.setCell ?_ ?_ _; rotate_left; (focus ((try simp); try omega)))))
      clear hK K
      (try simp only [Act.put]); (try simp only [List.setIfInBounds_toArray]); (try simp only [List.set_cons_succ]); (try simp only [List.set_cons_zero])
      refine wpAnyH_ready (rs := [2, 7]) (by kernel_rfl) (by simp) ?_
      refine AllReadyH.cons rfl (fun K hK => ?_) (AllReadyH.cons rfl (fun K hK => ?_) (AllReadyH.nil))
      · go_simp
        refine (c2.out _).mono ?_; rintro e v7 ⟨rfl, y_v7⟩
        have s_v7 := y_v7.size; (try simp at s_v7)
        have z0_v7 : w.heap.size < v7.heap.size := by omega
        have z1_v7 : w1.heap.size < v7.heap.size := by omega
        have z2_v7 : W.heap.size < v7.heap.size := by omega
        have q2_0_v7 : v7.cell? ⟨W.heap.size, 0, none⟩ = some (.int .i64 0) := y_v7.keep (by go_simp)
        have q2_1_v7 : v7.cell? ⟨W.heap.size, 1, none⟩ = some (.int .i64 0) := y_v7.keep (by go_simp)
        have q2_2_v7 : v7.cell? ⟨W.heap.size, 2, none⟩ = some (.int .i64 0) := y_v7.keep (by go_simp)
        have q2_3_v7 : v7.cell? ⟨W.heap.size, 3, none⟩ = some (.int .i64 0) := y_v7.keep (by go_simp)
        have fz2_v7 : ∀ o, v7.frozen? ⟨W.heap.size, o, none⟩ = false := by intro o; rw [(bcell y_v7).2 _ _ (by first | omega | (simp; done) | (simp; omega))]; go_simp
        have x_v7 := Ext.trans (show Ext W _ by assumption) y_v7
        have l_v7 := Ext.le x_v7
        clear y_v7 s_v7
        (try go_wp2_with fail)
        refine hK.out _ _ ?_ (fun hHeld => ?_)
        · (try dsimp only); (repeat' (with_reducible first | assumption | refine Ext.drew ?_ | refine Ext.drewN ?_ _ | refine Ext.alloc ?_ _ | exact Ext.refl _ | (refine Ext.setCell ?_ ?_ _; rotate_left; (focus ((try simp); try omega)))))
        clear hK K
        (try simp only [Act.put]); (try simp only [List.setIfInBounds_toArray]); (try simp only [List.set_cons_succ]); (try simp only [List.set_cons_zero])
        refine wpAnyH_ready (rs := [5, 7]) (by kernel_rfl) (by simp) ?_
        refine AllReadyH.cons rfl (fun K hK => ?_) (AllReadyH.cons rfl (fun K hK => ?_) (AllReadyH.nil))
        · go_simp
          refine (c3.out _).mono ?_; rintro e v8 ⟨rfl, y_v8⟩
          have s_v8 := y_v8.size; (try simp at s_v8)
          have z0_v8 : w.heap.size < v8.heap.size := by omega
          have z1_v8 : w1.heap.size < v8.heap.size := by omega
          have z2_v8 : W.heap.size < v8.heap.size := by omega
          have q2_0_v8 : v8.cell? ⟨W.heap.size, 0, none⟩ = some (.int .i64 0) := y_v8.keep (by go_simp)
          have q2_1_v8 : v8.cell? ⟨W.heap.size, 1, none⟩ = some (.int .i64 0) := y_v8.keep (by go_simp)
          have q2_2_v8 : v8.cell? ⟨W.heap.size, 2, none⟩ = some (.int .i64 0) := y_v8.keep (by go_simp)
          have q2_3_v8 : v8.cell? ⟨W.heap.size, 3, none⟩ = some (.int .i64 0) := y_v8.keep (by go_simp)
          have fz2_v8 : ∀ o, v8.frozen? ⟨W.heap.size, o, none⟩ = false := by intro o; rw [(bcell y_v8).2 _ _ (by first | omega | (simp; done) | (simp; omega))]; go_simp
          have x_v8 := Ext.trans (show Ext W _ by assumption) y_v8
          have l_v8 := Ext.le x_v8
          clear y_v8 s_v8
          (try go_wp2_with fail)
          refine hK.out _ _ ?_ (fun hHeld => ?_)
          · (try dsimp only); (repeat' (with_reducible first | assumption | refine Ext.drew ?_ | refine Ext.drewN ?_ _ | refine Ext.alloc ?_ _ | exact Ext.refl _ | (refine Ext.setCell ?_ ?_ _; rotate_left; (focus ((try simp); try omega)))))
          clear hK K
          (try simp only [Act.put]); (try simp only [List.setIfInBounds_toArray]); (try simp only [List.set_cons_succ]); (try simp only [List.set_cons_zero])
          refine wpAnyH_ready (rs := [7]) (by kernel_rfl) (by simp) ?_
          refine AllReadyH.cons rfl (fun K hK => ?_) (AllReadyH.nil)
          go_simp
          refine hK.out _ _ ?_ (fun hHeld => ?_)
          · (try dsimp only); (repeat' (with_reducible first | assumption | refine Ext.drew ?_ | refine Ext.drewN ?_ _ | refine Ext.alloc ?_ _ | exact Ext.refl _ | (refine Ext.setCell ?_ ?_ _; rotate_left; (focus ((try simp); try omega)))))
          clear hK K
          (try simp only [Act.put]); (try simp only [List.setIfInBounds_toArray]); (try simp only [List.set_cons_succ]); (try simp only [List.set_cons_zero])
          refine wpAnyH_ready (rs := [8]) (by kernel_rfl) (by simp) ?_
          refine AllReadyH.cons rfl (fun K hK => ?_) (AllReadyH.nil)
          go_simp
          refine hK.out _ _ ?_ (fun hHeld => ?_)
          · (try dsimp only); (repeat' (with_reducible first | assumption | refine Ext.drew ?_ | refine Ext.drewN ?_ _ | refine Ext.alloc ?_ _ | exact Ext.refl _ | (refine Ext.setCell ?_ ?_ _; rotate_left; (focus ((try simp); try omega)))))
          clear hK K
          (try simp only [Act.put]); (try simp only [List.setIfInBounds_toArray]); (try simp only [List.set_cons_succ]); (try simp only [List.set_cons_zero])
          refine wpAnyH_ready (rs := [9]) (by kernel_rfl) (by simp) ?_
          refine AllReadyH.cons rfl (fun K hK => ?_) (AllReadyH.nil)
          go_simp
          refine hK.out _ _ ?_ (fun hHeld => ?_)
          · (try dsimp only); (repeat' (with_reducible first | assumption | refine Ext.drew ?_ | refine Ext.drewN ?_ _ | refine Ext.alloc ?_ _ | exact Ext.refl _ | (refine Ext.setCell ?_ ?_ _; rotate_left; (focus ((try simp); try omega)))))
          clear hK K
          (try simp only [Act.put]); (try simp only [List.setIfInBounds_toArray]); (try simp only [List.set_cons_succ]); (try simp only [List.set_cons_zero])
          refine wpAnyH_done (by kernel_rfl) ?_ _
          go_wp2_with fail
          go_meet
          case rel =>
            refine ⟨W.heap.size, v8.heap.size, rfl, rfl, ?_, ?_, ?_, ?_, ?_⟩
            · refine ⟨by go_simp, by go_simp, by go_simp, by go_simp, fun o => by go_simp, by (try simp); try omega⟩
            · refine ⟨by go_simp, by go_simp, by go_simp, by go_simp, fun o => by go_simp, by (try simp); try omega⟩
            · refine ⟨by go_simp, by go_simp, by go_simp, by go_simp, fun o => by go_simp, by (try simp); try omega⟩
            · refine ⟨by go_simp, by go_simp, by go_simp, by go_simp, fun o => by go_simp, by (try simp); try omega⟩
            · exact X_W.out.trans hHeld
        · go_simp
          refine hK.out _ _ ?_ (fun hHeld => ?_)
          · (try dsimp only); (repeat' (with_reducible first | assumption | refine Ext.drew ?_ | refine Ext.drewN ?_ _ | refine Ext.alloc ?_ _ | exact Ext.refl _ | (refine Ext.setCell ?_ ?_ _; rotate_left; (focus ((try simp); try omega)))))
          clear hK K
          (try simp only [Act.put]); (try simp only [List.setIfInBounds_toArray]); (try simp only [List.set_cons_succ]); (try simp only [List.set_cons_zero])
          refine wpAnyH_ready (rs := [5]) (by kernel_rfl) (by simp) ?_
          refine AllReadyH.cons rfl (fun K hK => ?_) (AllReadyH.nil)
          go_simp
          refine (c3.out _).mono ?_; rintro e v9 ⟨rfl, y_v9⟩
          have s_v9 := y_v9.size; (try simp at s_v9)
          have z0_v9 : w.heap.size < v9.heap.size := by omega
          have z1_v9 : w1.heap.size < v9.heap.size := by omega
          have z2_v9 : W.heap.size < v9.heap.size := by omega
          have z3_v9 : v7.heap.size < v9.heap.size := by omega
          have q2_0_v9 : v9.cell? ⟨W.heap.size, 0, none⟩ = some (.int .i64 0) := y_v9.keep (by go_simp)
          have q2_1_v9 : v9.cell? ⟨W.heap.size, 1, none⟩ = some (.int .i64 0) := y_v9.keep (by go_simp)
          have q2_2_v9 : v9.cell? ⟨W.heap.size, 2, none⟩ = some (.int .i64 0) := y_v9.keep (by go_simp)
          have q2_3_v9 : v9.cell? ⟨W.heap.size, 3, none⟩ = some (.int .i64 0) := y_v9.keep (by go_simp)
          have fz2_v9 : ∀ o, v9.frozen? ⟨W.heap.size, o, none⟩ = false := by intro o; rw [(bcell y_v9).2 _ _ (by first | omega | (simp; done) | (simp; omega))]; go_simp
          have q3_0_v9 : v9.cell? ⟨v7.heap.size, 0, none⟩ = some (.int .i64 0) := y_v9.keep (by go_simp)
          have q3_1_v9 : v9.cell? ⟨v7.heap.size, 1, none⟩ = some (.int .i64 0) := y_v9.keep (by go_simp)
          have q3_2_v9 : v9.cell? ⟨v7.heap.size, 2, none⟩ = some (.int .i64 0) := y_v9.keep (by go_simp)
          have q3_3_v9 : v9.cell? ⟨v7.heap.size, 3, none⟩ = some (.int .i64 0) := y_v9.keep (by go_simp)
          have fz3_v9 : ∀ o, v9.frozen? ⟨v7.heap.size, o, none⟩ = false := by intro o; rw [(bcell y_v9).2 _ _ (by first | omega | (simp; done) | (simp; omega))]; go_simp
          have x_v9 := Ext.trans (show Ext W _ by assumption) y_v9
          have l_v9 := Ext.le x_v9
          clear y_v9 s_v9
          (try go_wp2_with fail)
          refine hK.out _ _ ?_ (fun hHeld => ?_)
          · (try dsimp only); (repeat' (with_reducible first | assumption | refine Ext.drew ?_ | refine Ext.drewN ?_ _ | refine Ext.alloc ?_ _ | exact Ext.refl _ | (refine Ext.setCell ?_ ?_ _; rotate_left; (focus ((try simp); try omega)))))
          clear hK K
          (try simp only [Act.put]); (try simp only [List.setIfInBounds_toArray]); (try simp only [List.set_cons_succ]); (try simp only [List.set_cons_zero])
          refine wpAnyH_ready (rs := [8]) (by kernel_rfl) (by simp) ?_
          refine AllReadyH.cons rfl (fun K hK => ?_) (AllReadyH.nil)
          go_simp
          refine hK.out _ _ ?_ (fun hHeld => ?_)
          · (try dsimp only); (repeat' (with_reducible first | assumption | refine Ext.drew ?_ | refine Ext.drewN ?_ _ | refine Ext.alloc ?_ _ | exact Ext.refl _ | (refine Ext.setCell ?_ ?_ _; rotate_left; (focus ((try simp); try omega)))))
          clear hK K
          (try simp only [Act.put]); (try simp only [List.setIfInBounds_toArray]); (try simp only [List.set_cons_succ]); (try simp only [List.set_cons_zero])
          refine wpAnyH_ready (rs := [9]) (by kernel_rfl) (by simp) ?_
          refine AllReadyH.cons rfl (fun K hK => ?_) (AllReadyH.nil)
          go_simp
          refine hK.out _ _ ?_ (fun hHeld => ?_)
          · (try dsimp only); (repeat' (with_reducible first | assumption | refine Ext.drew ?_ | refine Ext.drewN ?_ _ | refine Ext.alloc ?_ _ | exact Ext.refl _ | (refine Ext.setCell ?_ ?_ _; rotate_left; (focus ((try simp); try omega)))))
          clear hK K
          (try simp only [Act.put]); (try simp only [List.setIfInBounds_toArray]); (try simp only [List.set_cons_succ]); (try simp only [List.set_cons_zero])
          refine wpAnyH_done (by kernel_rfl) ?_ _
          go_wp2_with fail
          go_meet
          case rel =>
            refine ⟨W.heap.size, v7.heap.size, rfl, rfl, ?_, ?_, ?_, ?_, ?_⟩
            · refine ⟨by go_simp, by go_simp, by go_simp, by go_simp, fun o => by go_simp, by (try simp); try omega⟩
            · refine ⟨by go_simp, by go_simp, by go_simp, by go_simp, fun o => by go_simp, by (try simp); try omega⟩
            · refine ⟨by go_simp, by go_simp, by go_simp, by go_simp, fun o => by go_simp, by (try simp); try omega⟩
            · refine ⟨by go_simp, by go_simp, by go_simp, by go_simp, fun o => by go_simp, by (try simp); try omega⟩
            · exact X_W.out.trans hHeld
      · go_simp
        refine hK.out _ _ ?_ (fun hHeld => ?_)
        · (try dsimp only); (repeat' (with_reducible first | assumption | refine Ext.drew ?_ | refine Ext.drewN ?_ _ | refine Ext.alloc ?_ _ | exact Ext.refl _ | (refine Ext.setCell ?_ ?_ _; rotate_left; (focus ((try simp); try omega)))))
        clear hK K
        (try simp only [Act.put]); (try simp only [List.setIfInBounds_toArray]); (try simp only [List.set_cons_succ]); (try simp only [List.set_cons_zero])
        refine wpAnyH_ready (rs := [2]) (by kernel_rfl) (by simp) ?_
        refine AllReadyH.cons rfl (fun K hK => ?_) (AllReadyH.nil)
        go_simp
        refine (c2.out _).mono ?_; rintro e v10 ⟨rfl, y_v10⟩
        have s_v10 := y_v10.size; (try simp at s_v10)
        have z0_v10 : w.heap.size < v10.heap.size := by omega
        have z1_v10 : w1.heap.size < v10.heap.size := by omega
        have z2_v10 : W.heap.size < v10.heap.size := by omega
        have z3_v10 : W.heap.size + 1 < v10.heap.size := by omega
        have q2_0_v10 : v10.cell? ⟨W.heap.size, 0, none⟩ = some (.int .i64 0) := y_v10.keep (by go_simp)
        have q2_1_v10 : v10.cell? ⟨W.heap.size, 1, none⟩ = some (.int .i64 0) := y_v10.keep (by go_simp)
        have q2_2_v10 : v10.cell? ⟨W.heap.size, 2, none⟩ = some (.int .i64 0) := y_v10.keep (by go_simp)
        have q2_3_v10 : v10.cell? ⟨W.heap.size, 3, none⟩ = some (.int .i64 0) := y_v10.keep (by go_simp)
        have fz2_v10 : ∀ o, v10.frozen? ⟨W.heap.size, o, none⟩ = false := by intro o; rw [(bcell y_v10).2 _ _ (by first | omega | (simp; done) | (simp; omega))]; go_simp
        have q3_0_v10 : v10.cell? ⟨W.heap.size + 1, 0, none⟩ = some (.int .i64 0) := y_v10.keep (by go_simp)
        have q3_1_v10 : v10.cell? ⟨W.heap.size + 1, 1, none⟩ = some (.int .i64 0) := y_v10.keep (by go_simp)
        have q3_2_v10 : v10.cell? ⟨W.heap.size + 1, 2, none⟩ = some (.int .i64 0) := y_v10.keep (by go_simp)
        have q3_3_v10 : v10.cell? ⟨W.heap.size + 1, 3, none⟩ = some (.int .i64 0) := y_v10.keep (by go_simp)
        have fz3_v10 : ∀ o, v10.frozen? ⟨W.heap.size + 1, o, none⟩ = false := by intro o; rw [(bcell y_v10).2 _ _ (by first | omega | (simp; done) | (simp; omega))]; go_simp
        have x_v10 := Ext.trans (show Ext W _ by assumption) y_v10
        have l_v10 := Ext.le x_v10
        clear y_v10 s_v10
        (try go_wp2_with fail)
        refine hK.out _ _ ?_ (fun hHeld => ?_)
        · (try dsimp only); (repeat' (with_reducible first | assumption | refine Ext.drew ?_ | refine Ext.drewN ?_ _ | refine Ext.alloc ?_ _ | exact Ext.refl _ | (refine Ext.setCell ?_ ?_ _; rotate_left; (focus ((try simp); try omega)))))
        clear hK K
        (try simp only [Act.put]); (try simp only [List.setIfInBounds_toArray]); (try simp only [List.set_cons_succ]); (try simp only [List.set_cons_zero])
        refine wpAnyH_ready (rs := [5]) (by kernel_rfl) (by simp) ?_
        refine AllReadyH.cons rfl (fun K hK => ?_) (AllReadyH.nil)
        go_simp
        refine (c3.out _).mono ?_; rintro e v11 ⟨rfl, y_v11⟩
        have s_v11 := y_v11.size; (try simp at s_v11)
        have z0_v11 : w.heap.size < v11.heap.size := by omega
        have z1_v11 : w1.heap.size < v11.heap.size := by omega
        have z2_v11 : W.heap.size < v11.heap.size := by omega
        have z3_v11 : W.heap.size + 1 < v11.heap.size := by omega
        have q2_0_v11 : v11.cell? ⟨W.heap.size, 0, none⟩ = some (.int .i64 0) := y_v11.keep (by go_simp)
        have q2_1_v11 : v11.cell? ⟨W.heap.size, 1, none⟩ = some (.int .i64 0) := y_v11.keep (by go_simp)
        have q2_2_v11 : v11.cell? ⟨W.heap.size, 2, none⟩ = some (.int .i64 0) := y_v11.keep (by go_simp)
        have q2_3_v11 : v11.cell? ⟨W.heap.size, 3, none⟩ = some (.int .i64 0) := y_v11.keep (by go_simp)
        have fz2_v11 : ∀ o, v11.frozen? ⟨W.heap.size, o, none⟩ = false := by intro o; rw [(bcell y_v11).2 _ _ (by first | omega | (simp; done) | (simp; omega))]; go_simp
        have q3_0_v11 : v11.cell? ⟨W.heap.size + 1, 0, none⟩ = some (.int .i64 0) := y_v11.keep (by go_simp)
        have q3_1_v11 : v11.cell? ⟨W.heap.size + 1, 1, none⟩ = some (.int .i64 0) := y_v11.keep (by go_simp)
        have q3_2_v11 : v11.cell? ⟨W.heap.size + 1, 2, none⟩ = some (.int .i64 0) := y_v11.keep (by go_simp)
        have q3_3_v11 : v11.cell? ⟨W.heap.size + 1, 3, none⟩ = some (.int .i64 0) := y_v11.keep (by go_simp)
        have fz3_v11 : ∀ o, v11.frozen? ⟨W.heap.size + 1, o, none⟩ = false := by intro o; rw [(bcell y_v11).2 _ _ (by first | omega | (simp; done) | (simp; omega))]; go_simp
        have x_v11 := Ext.trans (show Ext W _ by assumption) y_v11
        have l_v11 := Ext.le x_v11
        clear y_v11 s_v11
        (try go_wp2_with fail)
        refine hK.out _ _ ?_ (fun hHeld => ?_)
        · (try dsimp only); (repeat' (with_reducible first | assumption | refine Ext.drew ?_ | refine Ext.drewN ?_ _ | refine Ext.alloc ?_ _ | exact Ext.refl _ | (refine Ext.setCell ?_ ?_ _; rotate_left; (focus ((try simp); try omega)))))
        clear hK K
        (try simp only [Act.put]); (try simp only [List.setIfInBounds_toArray]); (try simp only [List.set_cons_succ]); (try simp only [List.set_cons_zero])
        refine wpAnyH_ready (rs := [8]) (by kernel_rfl) (by simp) ?_
        refine AllReadyH.cons rfl (fun K hK => ?_) (AllReadyH.nil)
        go_simp
        refine hK.out _ _ ?_ (fun hHeld => ?_)
        · (try dsimp only); (repeat' (with_reducible first | assumption | refine Ext.drew ?_ | refine Ext.drewN ?_ _ | refine Ext.alloc ?_ _ | exact Ext.refl _ | (refine Ext.setCell ?_ ?_ _; rotate_left; (focus ((try simp); try omega)))))
        clear hK K
        (try simp only [Act.put]); (try simp only [List.setIfInBounds_toArray]); (try simp only [List.set_cons_succ]); (try simp only [List.set_cons_zero])
        refine wpAnyH_ready (rs := [9]) (by kernel_rfl) (by simp) ?_
        refine AllReadyH.cons rfl (fun K hK => ?_) (AllReadyH.nil)
        go_simp
        refine hK.out _ _ ?_ (fun hHeld => ?_)
        · (try dsimp only); (repeat' (with_reducible first | assumption | refine Ext.drew ?_ | refine Ext.drewN ?_ _ | refine Ext.alloc ?_ _ | exact Ext.refl _ | (refine Ext.setCell ?_ ?_ _; rotate_left; (focus ((try simp); try omega)))))
        clear hK K
        (try simp only [Act.put]); (try simp only [List.setIfInBounds_toArray]); (try simp only [List.set_cons_succ]); (try simp only [List.set_cons_zero])
        refine wpAnyH_done (by kernel_rfl) ?_ _
        go_wp2_with fail
        go_meet
        case rel =>
          refine ⟨W.heap.size, W.heap.size + 1, rfl, rfl, ?_, ?_, ?_, ?_, ?_⟩
          · refine ⟨by go_simp, by go_simp, by go_simp, by go_simp, fun o => by go_simp, by (try simp); try omega⟩
          · refine ⟨by go_simp, by go_simp, by go_simp, by go_simp, fun o => by go_simp, by (try simp); try omega⟩
          · refine ⟨by go_simp, by go_simp, by go_simp, by go_simp, fun o => by go_simp, by (try simp); try omega⟩
          · refine ⟨by go_simp, by go_simp, by go_simp, by go_simp, fun o => by go_simp, by (try simp); try omega⟩
          · exact X_W.out.trans hHeld
    · go_simp
      refine hK.out _ _ ?_ (fun hHeld => ?_)
      · (try dsimp only); (repeat' (with_reducible first | assumption | refine Ext.drew ?_ | refine Ext.drewN ?_ _ | refine Ext.alloc ?_ _ | exact Ext.refl _ | (refine Ext.setCell ?_ ?_ _; rotate_left; (focus ((try simp); try omega)))))
      clear hK K
      (try simp only [Act.put]); (try simp only [List.setIfInBounds_toArray]); (try simp only [List.set_cons_succ]); (try simp only [List.set_cons_zero])
      refine wpAnyH_ready (rs := [2, 6]) (by kernel_rfl) (by simp) ?_
      refine AllReadyH.cons rfl (fun K hK => ?_) (AllReadyH.cons rfl (fun K hK => ?_) (AllReadyH.nil))
      · go_simp
        refine (c2.out _).mono ?_; rintro e v12 ⟨rfl, y_v12⟩
        have s_v12 := y_v12.size; (try simp at s_v12)
        have z0_v12 : w.heap.size < v12.heap.size := by omega
        have z1_v12 : w1.heap.size < v12.heap.size := by omega
        have z2_v12 : W.heap.size < v12.heap.size := by omega
        have q2_0_v12 : v12.cell? ⟨W.heap.size, 0, none⟩ = some (.int .i64 0) := y_v12.keep (by go_simp)
        have q2_1_v12 : v12.cell? ⟨W.heap.size, 1, none⟩ = some (.int .i64 0) := y_v12.keep (by go_simp)
        have q2_2_v12 : v12.cell? ⟨W.heap.size, 2, none⟩ = some (.int .i64 0) := y_v12.keep (by go_simp)
        have q2_3_v12 : v12.cell? ⟨W.heap.size, 3, none⟩ = some (.int .i64 0) := y_v12.keep (by go_simp)
        have fz2_v12 : ∀ o, v12.frozen? ⟨W.heap.size, o, none⟩ = false := by intro o; rw [(bcell y_v12).2 _ _ (by first | omega | (simp; done) | (simp; omega))]; go_simp
        have x_v12 := Ext.trans (show Ext W _ by assumption) y_v12
        have l_v12 := Ext.le x_v12
        clear y_v12 s_v12
        (try go_wp2_with fail)
        refine hK.out _ _ ?_ (fun hHeld => ?_)
        · (try dsimp only); (repeat' (with_reducible first | assumption | refine Ext.drew ?_ | refine Ext.drewN ?_ _ | refine Ext.alloc ?_ _ | exact Ext.refl _ | (refine Ext.setCell ?_ ?_ _; rotate_left; (focus ((try simp); try omega)))))
        clear hK K
        (try simp only [Act.put]); (try simp only [List.setIfInBounds_toArray]); (try simp only [List.set_cons_succ]); (try simp only [List.set_cons_zero])
        refine wpAnyH_ready (rs := [5, 6]) (by kernel_rfl) (by simp) ?_
        refine AllReadyH.cons rfl (fun K hK => ?_) (AllReadyH.cons rfl (fun K hK => ?_) (AllReadyH.nil))
        · go_simp
          refine (c3.out _).mono ?_; rintro e v13 ⟨rfl, y_v13⟩
          have s_v13 := y_v13.size; (try simp at s_v13)
          have z0_v13 : w.heap.size < v13.heap.size := by omega
          have z1_v13 : w1.heap.size < v13.heap.size := by omega
          have z2_v13 : W.heap.size < v13.heap.size := by omega
          have q2_0_v13 : v13.cell? ⟨W.heap.size, 0, none⟩ = some (.int .i64 0) := y_v13.keep (by go_simp)
          have q2_1_v13 : v13.cell? ⟨W.heap.size, 1, none⟩ = some (.int .i64 0) := y_v13.keep (by go_simp)
          have q2_2_v13 : v13.cell? ⟨W.heap.size, 2, none⟩ = some (.int .i64 0) := y_v13.keep (by go_simp)
          have q2_3_v13 : v13.cell? ⟨W.heap.size, 3, none⟩ = some (.int .i64 0) := y_v13.keep (by go_simp)
          have fz2_v13 : ∀ o, v13.frozen? ⟨W.heap.size, o, none⟩ = false := by intro o; rw [(bcell y_v13).2 _ _ (by first | omega | (simp; done) | (simp; omega))]; go_simp
          have x_v13 := Ext.trans (show Ext W _ by assumption) y_v13
          have l_v13 := Ext.le x_v13
          clear y_v13 s_v13
          (try go_wp2_with fail)
          refine hK.out _ _ ?_ (fun hHeld => ?_)
          · (try dsimp only); (repeat' (with_reducible first | assumption | refine Ext.drew ?_ | refine Ext.drewN ?_ _ | refine Ext.alloc ?_ _ | exact Ext.refl _ | (refine Ext.setCell ?_ ?_ _; rotate_left; (focus ((try simp); try omega)))))
          clear hK K
          (try simp only [Act.put]); (try simp only [List.setIfInBounds_toArray]); (try simp only [List.set_cons_succ]); (try simp only [List.set_cons_zero])
          refine wpAnyH_ready (rs := [6]) (by kernel_rfl) (by simp) ?_
          refine AllReadyH.cons rfl (fun K hK => ?_) (AllReadyH.nil)
          go_simp
          refine hK.out _ _ ?_ (fun hHeld => ?_)
          · (try dsimp only); (repeat' (with_reducible first | assumption | refine Ext.drew ?_ | refine Ext.drewN ?_ _ | refine Ext.alloc ?_ _ | exact Ext.refl _ | (refine Ext.setCell ?_ ?_ _; rotate_left; (focus ((try simp); try omega)))))
          clear hK K
          (try simp only [Act.put]); (try simp only [List.setIfInBounds_toArray]); (try simp only [List.set_cons_succ]); (try simp only [List.set_cons_zero])
          refine wpAnyH_ready (rs := [8]) (by kernel_rfl) (by simp) ?_
          refine AllReadyH.cons rfl (fun K hK => ?_) (AllReadyH.nil)
          go_simp
          refine hK.out _ _ ?_ (fun hHeld => ?_)
          · (try dsimp only); (repeat' (with_reducible first | assumption | refine Ext.drew ?_ | refine Ext.drewN ?_ _ | refine Ext.alloc ?_ _ | exact Ext.refl _ | (refine Ext.setCell ?_ ?_ _; rotate_left; (focus ((try simp); try omega)))))
          clear hK K
          (try simp only [Act.put]); (try simp only [List.setIfInBounds_toArray]); (try simp only [List.set_cons_succ]); (try simp only [List.set_cons_zero])
          refine wpAnyH_ready (rs := [9]) (by kernel_rfl) (by simp) ?_
          refine AllReadyH.cons rfl (fun K hK => ?_) (AllReadyH.nil)
          go_simp
          refine hK.out _ _ ?_ (fun hHeld => ?_)
          · (try dsimp only); (repeat' (with_reducible first | assumption | refine Ext.drew ?_ | refine Ext.drewN ?_ _ | refine Ext.alloc ?_ _ | exact Ext.refl _ | (refine Ext.setCell ?_ ?_ _; rotate_left; (focus ((try simp); try omega)))))
          clear hK K
          (try simp only [Act.put]); (try simp only [List.setIfInBounds_toArray]); (try simp only [List.set_cons_succ]); (try simp only [List.set_cons_zero])
          refine wpAnyH_done (by kernel_rfl) ?_ _
          go_wp2_with fail
          go_meet
          case rel =>
            refine ⟨v13.heap.size, W.heap.size, rfl, rfl, ?_, ?_, ?_, ?_, ?_⟩
            · refine ⟨by go_simp, by go_simp, by go_simp, by go_simp, fun o => by go_simp, by (try simp); try omega⟩
            · refine ⟨by go_simp, by go_simp, by go_simp, by go_simp, fun o => by go_simp, by (try simp); try omega⟩
            · refine ⟨by go_simp, by go_simp, by go_simp, by go_simp, fun o => by go_simp, by (try simp); try omega⟩
            · refine ⟨by go_simp, by go_simp, by go_simp, by go_simp, fun o => by go_simp, by (try simp); try omega⟩
            · exact X_W.out.trans hHeld
        · go_simp
          refine hK.out _ _ ?_ (fun hHeld => ?_)
          · (try dsimp only); (repeat' (with_reducible first | assumption | refine Ext.drew ?_ | refine Ext.drewN ?_ _ | refine Ext.alloc ?_ _ | exact Ext.refl _ | (refine Ext.setCell ?_ ?_ _; rotate_left; (focus ((try simp); try omega)))))
          clear hK K
          (try simp only [Act.put]); (try simp only [List.setIfInBounds_toArray]); (try simp only [List.set_cons_succ]); (try simp only [List.set_cons_zero])
          refine wpAnyH_ready (rs := [5]) (by kernel_rfl) (by simp) ?_
          refine AllReadyH.cons rfl (fun K hK => ?_) (AllReadyH.nil)
          go_simp
          refine (c3.out _).mono ?_; rintro e v14 ⟨rfl, y_v14⟩
          have s_v14 := y_v14.size; (try simp at s_v14)
          have z0_v14 : w.heap.size < v14.heap.size := by omega
          have z1_v14 : w1.heap.size < v14.heap.size := by omega
          have z2_v14 : W.heap.size < v14.heap.size := by omega
          have z3_v14 : v12.heap.size < v14.heap.size := by omega
          have q2_0_v14 : v14.cell? ⟨W.heap.size, 0, none⟩ = some (.int .i64 0) := y_v14.keep (by go_simp)
          have q2_1_v14 : v14.cell? ⟨W.heap.size, 1, none⟩ = some (.int .i64 0) := y_v14.keep (by go_simp)
          have q2_2_v14 : v14.cell? ⟨W.heap.size, 2, none⟩ = some (.int .i64 0) := y_v14.keep (by go_simp)
          have q2_3_v14 : v14.cell? ⟨W.heap.size, 3, none⟩ = some (.int .i64 0) := y_v14.keep (by go_simp)
          have fz2_v14 : ∀ o, v14.frozen? ⟨W.heap.size, o, none⟩ = false := by intro o; rw [(bcell y_v14).2 _ _ (by first | omega | (simp; done) | (simp; omega))]; go_simp
          have q3_0_v14 : v14.cell? ⟨v12.heap.size, 0, none⟩ = some (.int .i64 0) := y_v14.keep (by go_simp)
          have q3_1_v14 : v14.cell? ⟨v12.heap.size, 1, none⟩ = some (.int .i64 0) := y_v14.keep (by go_simp)
          have q3_2_v14 : v14.cell? ⟨v12.heap.size, 2, none⟩ = some (.int .i64 0) := y_v14.keep (by go_simp)
          have q3_3_v14 : v14.cell? ⟨v12.heap.size, 3, none⟩ = some (.int .i64 0) := y_v14.keep (by go_simp)
          have fz3_v14 : ∀ o, v14.frozen? ⟨v12.heap.size, o, none⟩ = false := by intro o; rw [(bcell y_v14).2 _ _ (by first | omega | (simp; done) | (simp; omega))]; go_simp
          have x_v14 := Ext.trans (show Ext W _ by assumption) y_v14
          have l_v14 := Ext.le x_v14
          clear y_v14 s_v14
          (try go_wp2_with fail)
          refine hK.out _ _ ?_ (fun hHeld => ?_)
          · (try dsimp only); (repeat' (with_reducible first | assumption | refine Ext.drew ?_ | refine Ext.drewN ?_ _ | refine Ext.alloc ?_ _ | exact Ext.refl _ | (refine Ext.setCell ?_ ?_ _; rotate_left; (focus ((try simp); try omega)))))
          clear hK K
          (try simp only [Act.put]); (try simp only [List.setIfInBounds_toArray]); (try simp only [List.set_cons_succ]); (try simp only [List.set_cons_zero])
          refine wpAnyH_ready (rs := [8]) (by kernel_rfl) (by simp) ?_
          refine AllReadyH.cons rfl (fun K hK => ?_) (AllReadyH.nil)
          go_simp
          refine hK.out _ _ ?_ (fun hHeld => ?_)
          · (try dsimp only); (repeat' (with_reducible first | assumption | refine Ext.drew ?_ | refine Ext.drewN ?_ _ | refine Ext.alloc ?_ _ | exact Ext.refl _ | (refine Ext.setCell ?_ ?_ _; rotate_left; (focus ((try simp); try omega)))))
          clear hK K
          (try simp only [Act.put]); (try simp only [List.setIfInBounds_toArray]); (try simp only [List.set_cons_succ]); (try simp only [List.set_cons_zero])
          refine wpAnyH_ready (rs := [9]) (by kernel_rfl) (by simp) ?_
          refine AllReadyH.cons rfl (fun K hK => ?_) (AllReadyH.nil)
          go_simp
          refine hK.out _ _ ?_ (fun hHeld => ?_)
          · (try dsimp only); (repeat' (with_reducible first | assumption | refine Ext.drew ?_ | refine Ext.drewN ?_ _ | refine Ext.alloc ?_ _ | exact Ext.refl _ | (refine Ext.setCell ?_ ?_ _; rotate_left; (focus ((try simp); try omega)))))
          clear hK K
          (try simp only [Act.put]); (try simp only [List.setIfInBounds_toArray]); (try simp only [List.set_cons_succ]); (try simp only [List.set_cons_zero])
          refine wpAnyH_done (by kernel_rfl) ?_ _
          go_wp2_with fail
          go_meet
          case rel =>
            refine ⟨v12.heap.size, W.heap.size, rfl, rfl, ?_, ?_, ?_, ?_, ?_⟩
            · refine ⟨by go_simp, by go_simp, by go_simp, by go_simp, fun o => by go_simp, by (try simp); try omega⟩
            · refine ⟨by go_simp, by go_simp, by go_simp, by go_simp, fun o => by go_simp, by (try simp); try omega⟩
            · refine ⟨by go_simp, by go_simp, by go_simp, by go_simp, fun o => by go_simp, by (try simp); try omega⟩
            · refine ⟨by go_simp, by go_simp, by go_simp, by go_simp, fun o => by go_simp, by (try simp); try omega⟩
            · exact X_W.out.trans hHeld
      · go_simp
        refine hK.out _ _ ?_ (fun hHeld => ?_)
        · (try dsimp only); (repeat' (with_reducible first | assumption | refine Ext.drew ?_ | refine Ext.drewN ?_ _ | refine Ext.alloc ?_ _ | exact Ext.refl _ | (refine Ext.setCell ?_ ?_ _; rotate_left; (focus ((try simp); try omega)))))
        clear hK K
        (try simp only [Act.put]); (try simp only [List.setIfInBounds_toArray]); (try simp only [List.set_cons_succ]); (try simp only [List.set_cons_zero])
        refine wpAnyH_ready (rs := [2]) (by kernel_rfl) (by simp) ?_
        refine AllReadyH.cons rfl (fun K hK => ?_) (AllReadyH.nil)
        go_simp
        refine (c2.out _).mono ?_; rintro e v15 ⟨rfl, y_v15⟩
        have s_v15 := y_v15.size; (try simp at s_v15)
        have z0_v15 : w.heap.size < v15.heap.size := by omega
        have z1_v15 : w1.heap.size < v15.heap.size := by omega
        have z2_v15 : W.heap.size < v15.heap.size := by omega
        have z3_v15 : W.heap.size + 1 < v15.heap.size := by omega
        have q2_0_v15 : v15.cell? ⟨W.heap.size, 0, none⟩ = some (.int .i64 0) := y_v15.keep (by go_simp)
        have q2_1_v15 : v15.cell? ⟨W.heap.size, 1, none⟩ = some (.int .i64 0) := y_v15.keep (by go_simp)
        have q2_2_v15 : v15.cell? ⟨W.heap.size, 2, none⟩ = some (.int .i64 0) := y_v15.keep (by go_simp)
        have q2_3_v15 : v15.cell? ⟨W.heap.size, 3, none⟩ = some (.int .i64 0) := y_v15.keep (by go_simp)
        have fz2_v15 : ∀ o, v15.frozen? ⟨W.heap.size, o, none⟩ = false := by intro o; rw [(bcell y_v15).2 _ _ (by first | omega | (simp; done) | (simp; omega))]; go_simp
        have q3_0_v15 : v15.cell? ⟨W.heap.size + 1, 0, none⟩ = some (.int .i64 0) := y_v15.keep (by go_simp)
        have q3_1_v15 : v15.cell? ⟨W.heap.size + 1, 1, none⟩ = some (.int .i64 0) := y_v15.keep (by go_simp)
        have q3_2_v15 : v15.cell? ⟨W.heap.size + 1, 2, none⟩ = some (.int .i64 0) := y_v15.keep (by go_simp)
        have q3_3_v15 : v15.cell? ⟨W.heap.size + 1, 3, none⟩ = some (.int .i64 0) := y_v15.keep (by go_simp)
        have fz3_v15 : ∀ o, v15.frozen? ⟨W.heap.size + 1, o, none⟩ = false := by intro o; rw [(bcell y_v15).2 _ _ (by first | omega | (simp; done) | (simp; omega))]; go_simp
        have x_v15 := Ext.trans (show Ext W _ by assumption) y_v15
        have l_v15 := Ext.le x_v15
        clear y_v15 s_v15
        (try go_wp2_with fail)
        refine hK.out _ _ ?_ (fun hHeld => ?_)
        · (try dsimp only); (repeat' (with_reducible first | assumption | refine Ext.drew ?_ | refine Ext.drewN ?_ _ | refine Ext.alloc ?_ _ | exact Ext.refl _ | (refine Ext.setCell ?_ ?_ _; rotate_left; (focus ((try simp); try omega)))))
        clear hK K
        (try simp only [Act.put]); (try simp only [List.setIfInBounds_toArray]); (try simp only [List.set_cons_succ]); (try simp only [List.set_cons_zero])
        refine wpAnyH_ready (rs := [5]) (by kernel_rfl) (by simp) ?_
        refine AllReadyH.cons rfl (fun K hK => ?_) (AllReadyH.nil)
        go_simp
        refine (c3.out _).mono ?_; rintro e v16 ⟨rfl, y_v16⟩
        have s_v16 := y_v16.size; (try simp at s_v16)
        have z0_v16 : w.heap.size < v16.heap.size := by omega
        have z1_v16 : w1.heap.size < v16.heap.size := by omega
        have z2_v16 : W.heap.size < v16.heap.size := by omega
        have z3_v16 : W.heap.size + 1 < v16.heap.size := by omega
        have q2_0_v16 : v16.cell? ⟨W.heap.size, 0, none⟩ = some (.int .i64 0) := y_v16.keep (by go_simp)
        have q2_1_v16 : v16.cell? ⟨W.heap.size, 1, none⟩ = some (.int .i64 0) := y_v16.keep (by go_simp)
        have q2_2_v16 : v16.cell? ⟨W.heap.size, 2, none⟩ = some (.int .i64 0) := y_v16.keep (by go_simp)
        have q2_3_v16 : v16.cell? ⟨W.heap.size, 3, none⟩ = some (.int .i64 0) := y_v16.keep (by go_simp)
        have fz2_v16 : ∀ o, v16.frozen? ⟨W.heap.size, o, none⟩ = false := by intro o; rw [(bcell y_v16).2 _ _ (by first | omega | (simp; done) | (simp; omega))]; go_simp
        have q3_0_v16 : v16.cell? ⟨W.heap.size + 1, 0, none⟩ = some (.int .i64 0) := y_v16.keep (by go_simp)
        have q3_1_v16 : v16.cell? ⟨W.heap.size + 1, 1, none⟩ = some (.int .i64 0) := y_v16.keep (by go_simp)
        have q3_2_v16 : v16.cell? ⟨W.heap.size + 1, 2, none⟩ = some (.int .i64 0) := y_v16.keep (by go_simp)
        have q3_3_v16 : v16.cell? ⟨W.heap.size + 1, 3, none⟩ = some (.int .i64 0) := y_v16.keep (by go_simp)
        have fz3_v16 : ∀ o, v16.frozen? ⟨W.heap.size + 1, o, none⟩ = false := by intro o; rw [(bcell y_v16).2 _ _ (by first | omega | (simp; done) | (simp; omega))]; go_simp
        have x_v16 := Ext.trans (show Ext W _ by assumption) y_v16
        have l_v16 := Ext.le x_v16
        clear y_v16 s_v16
        (try go_wp2_with fail)
        refine hK.out _ _ ?_ (fun hHeld => ?_)
        · (try dsimp only); (repeat' (with_reducible first | assumption | refine Ext.drew ?_ | refine Ext.drewN ?_ _ | refine Ext.alloc ?_ _ | exact Ext.refl _ | (refine Ext.setCell ?_ ?_ _; rotate_left; (focus ((try simp); try omega)))))
        clear hK K
        (try simp only [Act.put]); (try simp only [List.setIfInBounds_toArray]); (try simp only [List.set_cons_succ]); (try simp only [List.set_cons_zero])
        refine wpAnyH_ready (rs := [8]) (by kernel_rfl) (by simp) ?_
        refine AllReadyH.cons rfl (fun K hK => ?_) (AllReadyH.nil)
        go_simp
        refine hK.out _ _ ?_ (fun hHeld => ?_)
        · (try dsimp only); (repeat' (with_reducible first | assumption | refine Ext.drew ?_ | refine Ext.drewN ?_ _ | refine Ext.alloc ?_ _ | exact Ext.refl _ | (refine Ext.setCell ?_ ?_ _; rotate_left; (focus ((try simp); try omega)))))
        clear hK K
        (try simp only [Act.put]); (try simp only [List.setIfInBounds_toArray]); (try simp only [List.set_cons_succ]); (try simp only [List.set_cons_zero])
        refine wpAnyH_ready (rs := [9]) (by kernel_rfl) (by simp) ?_
        refine AllReadyH.cons rfl (fun K hK => ?_) (AllReadyH.nil)
        go_simp
        refine hK.out _ _ ?_ (fun hHeld => ?_)
        · (try dsimp only); (repeat' (with_reducible first | assumption | refine Ext.drew ?_ | refine Ext.drewN ?_ _ | refine Ext.alloc ?_ _ | exact Ext.refl _ | (refine Ext.setCell ?_ ?_ _; rotate_left; (focus ((try simp); try omega)))))
        clear hK K
        (try simp only [Act.put]); (try simp only [List.setIfInBounds_toArray]); (try simp only [List.set_cons_succ]); (try simp only [List.set_cons_zero])
        refine wpAnyH_done (by kernel_rfl) ?_ _
        go_wp2_with fail
        go_meet
        case rel =>
          refine ⟨W.heap.size + 1, W.heap.size, rfl, rfl, ?_, ?_, ?_, ?_, ?_⟩
          · refine ⟨by go_simp, by go_simp, by go_simp, by go_simp, fun o => by go_simp, by (try simp); try omega⟩
          · refine ⟨by go_simp, by go_simp, by go_simp, by go_simp, fun o => by go_simp, by (try simp); try omega⟩
          · refine ⟨by go_simp, by go_simp, by go_simp, by go_simp, fun o => by go_simp, by (try simp); try omega⟩
          · refine ⟨by go_simp, by go_simp, by go_simp, by go_simp, fun o => by go_simp, by (try simp); try omega⟩
          · exact X_W.out.trans hHeld
  case rest =>
    obtain ⟨p, q, rfl, rfl, ⟨p0, p1, p2, p3, pf, pz⟩, ⟨q0, q1, q2, q3, qf, qz⟩, ⟨r0, r1, r2, r3, rf, rz⟩, ⟨s0, s1, s2, s3, sf, sz⟩, hx⟩ := hcut
    have X_wc := Lib.hid hx
    clear hx
    go_wp2_with fail
    refine wp_world fun W h_W => ?_
    subst h_W
    have up0 : ∀ w', Ext W w' → w'.cell? ⟨p, 0, none⟩ = some (.int .i64 A0) := fun _ h => h.keep p0
    have up1 : ∀ w', Ext W w' → w'.cell? ⟨p, 1, none⟩ = some (.int .i64 A1) := fun _ h => h.keep p1
    have up2 : ∀ w', Ext W w' → w'.cell? ⟨p, 2, none⟩ = some (.int .i64 A2) := fun _ h => h.keep p2
    have up3 : ∀ w', Ext W w' → w'.cell? ⟨p, 3, none⟩ = some (.int .i64 A3) := fun _ h => h.keep p3
    have uq0 : ∀ w', Ext W w' → w'.cell? ⟨q, 0, none⟩ = some (.int .i64 B0) := fun _ h => h.keep q0
    have uq1 : ∀ w', Ext W w' → w'.cell? ⟨q, 1, none⟩ = some (.int .i64 B1) := fun _ h => h.keep q1
    have uq2 : ∀ w', Ext W w' → w'.cell? ⟨q, 2, none⟩ = some (.int .i64 B2) := fun _ h => h.keep q2
    have uq3 : ∀ w', Ext W w' → w'.cell? ⟨q, 3, none⟩ = some (.int .i64 B3) := fun _ h => h.keep q3
    have ur0 : ∀ w', Ext W w' → w'.cell? ⟨w.heap.size, 0, none⟩ = some (.int .i64 a) := fun _ h => h.keep r0
    have ur1 : ∀ w', Ext W w' → w'.cell? ⟨w.heap.size, 1, none⟩ = some (.int .i64 b) := fun _ h => h.keep r1
    have ur2 : ∀ w', Ext W w' → w'.cell? ⟨w.heap.size, 2, none⟩ = some (.int .i64 c) := fun _ h => h.keep r2
    have ur3 : ∀ w', Ext W w' → w'.cell? ⟨w.heap.size, 3, none⟩ = some (.int .i64 d) := fun _ h => h.keep r3
    have us0 : ∀ w', Ext W w' → w'.cell? ⟨w1.heap.size, 0, none⟩ = some (.int .i64 (-a)) := fun _ h => h.keep s0
    have us1 : ∀ w', Ext W w' → w'.cell? ⟨w1.heap.size, 1, none⟩ = some (.int .i64 (-b)) := fun _ h => h.keep s1
    have us2 : ∀ w', Ext W w' → w'.cell? ⟨w1.heap.size, 2, none⟩ = some (.int .i64 (-c)) := fun _ h => h.keep s2
    have us3 : ∀ w', Ext W w' → w'.cell? ⟨w1.heap.size, 3, none⟩ = some (.int .i64 (-d)) := fun _ h => h.keep s3
    refine wp_loop_rounds 5 ?_
    rw [rounds_succ]; go_wp2_with fail
    refine wp_region_held_drew (S := fun w' => Ext W w') (by kernel_rfl) (by (try dsimp only); (repeat' (with_reducible first | assumption | refine Ext.drew ?_ | refine Ext.drewN ?_ _ | exact Ext.refl _))) (fun hHeld => ?_)
    refine htakeG (i := 0) (v := ?_) (some 37) rfl rfl (by kernel_rfl) (by kernel_rfl) (by kernel_rfl) (fun _ _ _ h => h) (Or.inl ⟨by rfl, ?_⟩) (by assumption) ?_; rotate_left; (focus (intro w hSw; (try dsimp only at hSw); go_simp; (try with_reducible rfl))); (try simp only [Act.put]); (try simp only [List.setIfInBounds_toArray]); (try simp only [List.set_cons_succ]); (try simp only [List.set_cons_zero])
    refine htakeG (i := 1) (v := ?_) (some 38) rfl rfl (by kernel_rfl) (by kernel_rfl) (by kernel_rfl) (fun _ _ _ h => h) (Or.inl ⟨by rfl, ?_⟩) (by assumption) ?_; rotate_left; (focus (intro w hSw; (try dsimp only at hSw); go_simp; (try with_reducible rfl))); (try simp only [Act.put]); (try simp only [List.setIfInBounds_toArray]); (try simp only [List.set_cons_succ]); (try simp only [List.set_cons_zero])
    refine htakeG (i := 2) (v := ?_) (some 39) rfl rfl (by kernel_rfl) (by kernel_rfl) (by kernel_rfl) (fun _ _ _ h => h) (Or.inl ⟨by rfl, ?_⟩) (by assumption) ?_; rotate_left; (focus (intro w hSw; (try dsimp only at hSw); go_simp; (try with_reducible rfl))); (try simp only [Act.put]); (try simp only [List.setIfInBounds_toArray]); (try simp only [List.set_cons_succ]); (try simp only [List.set_cons_zero])
    refine htakeG (i := 3) (v := ?_) (some 40) rfl rfl (by kernel_rfl) (by kernel_rfl) (by kernel_rfl) (fun _ _ _ h => h) (Or.inl ⟨by rfl, ?_⟩) (by assumption) ?_; rotate_left; (focus (intro w hSw; (try dsimp only at hSw); go_simp; (try with_reducible rfl))); (try simp only [Act.put]); (try simp only [List.setIfInBounds_toArray]); (try simp only [List.set_cons_succ]); (try simp only [List.set_cons_zero])
    refine htakeG (i := 4) (v := ?_) (some 41) rfl rfl (by kernel_rfl) (by kernel_rfl) (by kernel_rfl) (fun _ _ _ h => h) (Or.inl ⟨by rfl, ?_⟩) (by assumption) ?_; rotate_left; (focus (intro w hSw; (try dsimp only at hSw); go_simp; (try with_reducible rfl))); (try simp only [Act.put]); (try simp only [List.setIfInBounds_toArray]); (try simp only [List.set_cons_succ]); (try simp only [List.set_cons_zero])
    refine htakeG (i := 5) (v := ?_) (some 42) rfl rfl (by kernel_rfl) (by kernel_rfl) (by kernel_rfl) (fun _ _ _ h => h) (Or.inl ⟨by rfl, ?_⟩) (by assumption) ?_; rotate_left; (focus (intro w hSw; (try dsimp only at hSw); go_simp; (try with_reducible rfl))); (try simp only [Act.put]); (try simp only [List.setIfInBounds_toArray]); (try simp only [List.set_cons_succ]); (try simp only [List.set_cons_zero])
    refine htakeG (i := 6) (v := ?_) (some 43) rfl rfl (by kernel_rfl) (by kernel_rfl) (by kernel_rfl) (fun _ _ _ h => h) (Or.inl ⟨by rfl, ?_⟩) (by assumption) ?_; rotate_left; (focus (intro w hSw; (try dsimp only at hSw); go_simp; (try with_reducible rfl))); (try simp only [Act.put]); (try simp only [List.setIfInBounds_toArray]); (try simp only [List.set_cons_succ]); (try simp only [List.set_cons_zero])
    refine htakeG (i := 7) (v := ?_) (some 44) rfl rfl (by kernel_rfl) (by kernel_rfl) (by kernel_rfl) (fun _ _ _ h => h) (Or.inl ⟨by rfl, ?_⟩) (by assumption) ?_; rotate_left; (focus (intro w hSw; (try dsimp only at hSw); go_simp; (try with_reducible rfl))); (try simp only [Act.put]); (try simp only [List.setIfInBounds_toArray]); (try simp only [List.set_cons_succ]); (try simp only [List.set_cons_zero])
    refine wpAnyH_done (by kernel_rfl) ?_ _
    go_wp2_with fail
    rw [rounds_succ]; go_wp2_with fail
    refine wp_region_held_drew (S := fun w' => Ext W w') (by kernel_rfl) (by (try dsimp only); (repeat' (with_reducible first | assumption | refine Ext.drew ?_ | refine Ext.drewN ?_ _ | exact Ext.refl _))) (fun hHeld => ?_)
    refine htakeG (i := 0) (v := ?_) (some 37) rfl rfl (by kernel_rfl) (by kernel_rfl) (by kernel_rfl) (fun _ _ _ h => h) (Or.inl ⟨by rfl, ?_⟩) (by assumption) ?_; rotate_left; (focus (intro w hSw; (try dsimp only at hSw); go_simp; (try with_reducible rfl))); (try simp only [Act.put]); (try simp only [List.setIfInBounds_toArray]); (try simp only [List.set_cons_succ]); (try simp only [List.set_cons_zero])
    refine htakeG (i := 1) (v := ?_) (some 38) rfl rfl (by kernel_rfl) (by kernel_rfl) (by kernel_rfl) (fun _ _ _ h => h) (Or.inl ⟨by rfl, ?_⟩) (by assumption) ?_; rotate_left; (focus (intro w hSw; (try dsimp only at hSw); go_simp; (try with_reducible rfl))); (try simp only [Act.put]); (try simp only [List.setIfInBounds_toArray]); (try simp only [List.set_cons_succ]); (try simp only [List.set_cons_zero])
    refine htakeG (i := 2) (v := ?_) (some 39) rfl rfl (by kernel_rfl) (by kernel_rfl) (by kernel_rfl) (fun _ _ _ h => h) (Or.inl ⟨by rfl, ?_⟩) (by assumption) ?_; rotate_left; (focus (intro w hSw; (try dsimp only at hSw); go_simp; (try with_reducible rfl))); (try simp only [Act.put]); (try simp only [List.setIfInBounds_toArray]); (try simp only [List.set_cons_succ]); (try simp only [List.set_cons_zero])
    refine htakeG (i := 3) (v := ?_) (some 40) rfl rfl (by kernel_rfl) (by kernel_rfl) (by kernel_rfl) (fun _ _ _ h => h) (Or.inl ⟨by rfl, ?_⟩) (by assumption) ?_; rotate_left; (focus (intro w hSw; (try dsimp only at hSw); go_simp; (try with_reducible rfl))); (try simp only [Act.put]); (try simp only [List.setIfInBounds_toArray]); (try simp only [List.set_cons_succ]); (try simp only [List.set_cons_zero])
    refine htakeG (i := 4) (v := ?_) (some 41) rfl rfl (by kernel_rfl) (by kernel_rfl) (by kernel_rfl) (fun _ _ _ h => h) (Or.inl ⟨by rfl, ?_⟩) (by assumption) ?_; rotate_left; (focus (intro w hSw; (try dsimp only at hSw); go_simp; (try with_reducible rfl))); (try simp only [Act.put]); (try simp only [List.setIfInBounds_toArray]); (try simp only [List.set_cons_succ]); (try simp only [List.set_cons_zero])
    refine htakeG (i := 5) (v := ?_) (some 42) rfl rfl (by kernel_rfl) (by kernel_rfl) (by kernel_rfl) (fun _ _ _ h => h) (Or.inl ⟨by rfl, ?_⟩) (by assumption) ?_; rotate_left; (focus (intro w hSw; (try dsimp only at hSw); go_simp; (try with_reducible rfl))); (try simp only [Act.put]); (try simp only [List.setIfInBounds_toArray]); (try simp only [List.set_cons_succ]); (try simp only [List.set_cons_zero])
    refine htakeG (i := 6) (v := ?_) (some 43) rfl rfl (by kernel_rfl) (by kernel_rfl) (by kernel_rfl) (fun _ _ _ h => h) (Or.inl ⟨by rfl, ?_⟩) (by assumption) ?_; rotate_left; (focus (intro w hSw; (try dsimp only at hSw); go_simp; (try with_reducible rfl))); (try simp only [Act.put]); (try simp only [List.setIfInBounds_toArray]); (try simp only [List.set_cons_succ]); (try simp only [List.set_cons_zero])
    refine htakeG (i := 7) (v := ?_) (some 44) rfl rfl (by kernel_rfl) (by kernel_rfl) (by kernel_rfl) (fun _ _ _ h => h) (Or.inl ⟨by rfl, ?_⟩) (by assumption) ?_; rotate_left; (focus (intro w hSw; (try dsimp only at hSw); go_simp; (try with_reducible rfl))); (try simp only [Act.put]); (try simp only [List.setIfInBounds_toArray]); (try simp only [List.set_cons_succ]); (try simp only [List.set_cons_zero])
    refine wpAnyH_done (by kernel_rfl) ?_ _
    go_wp2_with fail
    rw [rounds_succ]; go_wp2_with fail
    refine wp_region_held_drew (S := fun w' => Ext W w') (by kernel_rfl) (by (try dsimp only); (repeat' (with_reducible first | assumption | refine Ext.drew ?_ | refine Ext.drewN ?_ _ | exact Ext.refl _))) (fun hHeld => ?_)
    refine htakeG (i := 0) (v := ?_) (some 37) rfl rfl (by kernel_rfl) (by kernel_rfl) (by kernel_rfl) (fun _ _ _ h => h) (Or.inl ⟨by rfl, ?_⟩) (by assumption) ?_; rotate_left; (focus (intro w hSw; (try dsimp only at hSw); go_simp; (try with_reducible rfl))); (try simp only [Act.put]); (try simp only [List.setIfInBounds_toArray]); (try simp only [List.set_cons_succ]); (try simp only [List.set_cons_zero])
    refine htakeG (i := 1) (v := ?_) (some 38) rfl rfl (by kernel_rfl) (by kernel_rfl) (by kernel_rfl) (fun _ _ _ h => h) (Or.inl ⟨by rfl, ?_⟩) (by assumption) ?_; rotate_left; (focus (intro w hSw; (try dsimp only at hSw); go_simp; (try with_reducible rfl))); (try simp only [Act.put]); (try simp only [List.setIfInBounds_toArray]); (try simp only [List.set_cons_succ]); (try simp only [List.set_cons_zero])
    refine htakeG (i := 2) (v := ?_) (some 39) rfl rfl (by kernel_rfl) (by kernel_rfl) (by kernel_rfl) (fun _ _ _ h => h) (Or.inl ⟨by rfl, ?_⟩) (by assumption) ?_; rotate_left; (focus (intro w hSw; (try dsimp only at hSw); go_simp; (try with_reducible rfl))); (try simp only [Act.put]); (try simp only [List.setIfInBounds_toArray]); (try simp only [List.set_cons_succ]); (try simp only [List.set_cons_zero])
    refine htakeG (i := 3) (v := ?_) (some 40) rfl rfl (by kernel_rfl) (by kernel_rfl) (by kernel_rfl) (fun _ _ _ h => h) (Or.inl ⟨by rfl, ?_⟩) (by assumption) ?_; rotate_left; (focus (intro w hSw; (try dsimp only at hSw); go_simp; (try with_reducible rfl))); (try simp only [Act.put]); (try simp only [List.setIfInBounds_toArray]); (try simp only [List.set_cons_succ]); (try simp only [List.set_cons_zero])
    refine htakeG (i := 4) (v := ?_) (some 41) rfl rfl (by kernel_rfl) (by kernel_rfl) (by kernel_rfl) (fun _ _ _ h => h) (Or.inl ⟨by rfl, ?_⟩) (by assumption) ?_; rotate_left; (focus (intro w hSw; (try dsimp only at hSw); go_simp; (try with_reducible rfl))); (try simp only [Act.put]); (try simp only [List.setIfInBounds_toArray]); (try simp only [List.set_cons_succ]); (try simp only [List.set_cons_zero])
    refine htakeG (i := 5) (v := ?_) (some 42) rfl rfl (by kernel_rfl) (by kernel_rfl) (by kernel_rfl) (fun _ _ _ h => h) (Or.inl ⟨by rfl, ?_⟩) (by assumption) ?_; rotate_left; (focus (intro w hSw; (try dsimp only at hSw); go_simp; (try with_reducible rfl))); (try simp only [Act.put]); (try simp only [List.setIfInBounds_toArray]); (try simp only [List.set_cons_succ]); (try simp only [List.set_cons_zero])
    refine htakeG (i := 6) (v := ?_) (some 43) rfl rfl (by kernel_rfl) (by kernel_rfl) (by kernel_rfl) (fun _ _ _ h => h) (Or.inl ⟨by rfl, ?_⟩) (by assumption) ?_; rotate_left; (focus (intro w hSw; (try dsimp only at hSw); go_simp; (try with_reducible rfl))); (try simp only [Act.put]); (try simp only [List.setIfInBounds_toArray]); (try simp only [List.set_cons_succ]); (try simp only [List.set_cons_zero])
    refine htakeG (i := 7) (v := ?_) (some 44) rfl rfl (by kernel_rfl) (by kernel_rfl) (by kernel_rfl) (fun _ _ _ h => h) (Or.inl ⟨by rfl, ?_⟩) (by assumption) ?_; rotate_left; (focus (intro w hSw; (try dsimp only at hSw); go_simp; (try with_reducible rfl))); (try simp only [Act.put]); (try simp only [List.setIfInBounds_toArray]); (try simp only [List.set_cons_succ]); (try simp only [List.set_cons_zero])
    refine wpAnyH_done (by kernel_rfl) ?_ _
    go_wp2_with fail
    rw [rounds_succ]; go_wp2_with fail
    refine wp_region_held_drew (S := fun w' => Ext W w') (by kernel_rfl) (by (try dsimp only); (repeat' (with_reducible first | assumption | refine Ext.drew ?_ | refine Ext.drewN ?_ _ | exact Ext.refl _))) (fun hHeld => ?_)
    refine htakeG (i := 0) (v := ?_) (some 37) rfl rfl (by kernel_rfl) (by kernel_rfl) (by kernel_rfl) (fun _ _ _ h => h) (Or.inl ⟨by rfl, ?_⟩) (by assumption) ?_; rotate_left; (focus (intro w hSw; (try dsimp only at hSw); go_simp; (try with_reducible rfl))); (try simp only [Act.put]); (try simp only [List.setIfInBounds_toArray]); (try simp only [List.set_cons_succ]); (try simp only [List.set_cons_zero])
    refine htakeG (i := 1) (v := ?_) (some 38) rfl rfl (by kernel_rfl) (by kernel_rfl) (by kernel_rfl) (fun _ _ _ h => h) (Or.inl ⟨by rfl, ?_⟩) (by assumption) ?_; rotate_left; (focus (intro w hSw; (try dsimp only at hSw); go_simp; (try with_reducible rfl))); (try simp only [Act.put]); (try simp only [List.setIfInBounds_toArray]); (try simp only [List.set_cons_succ]); (try simp only [List.set_cons_zero])
    refine htakeG (i := 2) (v := ?_) (some 39) rfl rfl (by kernel_rfl) (by kernel_rfl) (by kernel_rfl) (fun _ _ _ h => h) (Or.inl ⟨by rfl, ?_⟩) (by assumption) ?_; rotate_left; (focus (intro w hSw; (try dsimp only at hSw); go_simp; (try with_reducible rfl))); (try simp only [Act.put]); (try simp only [List.setIfInBounds_toArray]); (try simp only [List.set_cons_succ]); (try simp only [List.set_cons_zero])
    refine htakeG (i := 3) (v := ?_) (some 40) rfl rfl (by kernel_rfl) (by kernel_rfl) (by kernel_rfl) (fun _ _ _ h => h) (Or.inl ⟨by rfl, ?_⟩) (by assumption) ?_; rotate_left; (focus (intro w hSw; (try dsimp only at hSw); go_simp; (try with_reducible rfl))); (try simp only [Act.put]); (try simp only [List.setIfInBounds_toArray]); (try simp only [List.set_cons_succ]); (try simp only [List.set_cons_zero])
    refine htakeG (i := 4) (v := ?_) (some 41) rfl rfl (by kernel_rfl) (by kernel_rfl) (by kernel_rfl) (fun _ _ _ h => h) (Or.inl ⟨by rfl, ?_⟩) (by assumption) ?_; rotate_left; (focus (intro w hSw; (try dsimp only at hSw); go_simp; (try with_reducible rfl))); (try simp only [Act.put]); (try simp only [List.setIfInBounds_toArray]); (try simp only [List.set_cons_succ]); (try simp only [List.set_cons_zero])
    refine htakeG (i := 5) (v := ?_) (some 42) rfl rfl (by kernel_rfl) (by kernel_rfl) (by kernel_rfl) (fun _ _ _ h => h) (Or.inl ⟨by rfl, ?_⟩) (by assumption) ?_; rotate_left; (focus (intro w hSw; (try dsimp only at hSw); go_simp; (try with_reducible rfl))); (try simp only [Act.put]); (try simp only [List.setIfInBounds_toArray]); (try simp only [List.set_cons_succ]); (try simp only [List.set_cons_zero])
    refine htakeG (i := 6) (v := ?_) (some 43) rfl rfl (by kernel_rfl) (by kernel_rfl) (by kernel_rfl) (fun _ _ _ h => h) (Or.inl ⟨by rfl, ?_⟩) (by assumption) ?_; rotate_left; (focus (intro w hSw; (try dsimp only at hSw); go_simp; (try with_reducible rfl))); (try simp only [Act.put]); (try simp only [List.setIfInBounds_toArray]); (try simp only [List.set_cons_succ]); (try simp only [List.set_cons_zero])
    refine htakeG (i := 7) (v := ?_) (some 44) rfl rfl (by kernel_rfl) (by kernel_rfl) (by kernel_rfl) (fun _ _ _ h => h) (Or.inl ⟨by rfl, ?_⟩) (by assumption) ?_; rotate_left; (focus (intro w hSw; (try dsimp only at hSw); go_simp; (try with_reducible rfl))); (try simp only [Act.put]); (try simp only [List.setIfInBounds_toArray]); (try simp only [List.set_cons_succ]); (try simp only [List.set_cons_zero])
    refine wpAnyH_done (by kernel_rfl) ?_ _
    go_wp2_with fail
    rw [rounds_succ]; go_wp2_with fail
    refine (c4.out _).mono ?_; rintro e w7 ⟨rfl, x_w7⟩
    have x7 := Ext.trans (show Ext W _ by assumption) x_w7
    clear x_w7
    go_wp2_with fail
    have cs := hcase.out
    rcases cs with ⟨e1, e2⟩ | ⟨e1, rfl, rfl, rfl, rfl⟩ | ⟨e1, e2, rfl, rfl, rfl, rfl⟩
    · have j1 := dlt_t e1
      have j2 := dlt_t e2
      clear e1 e2
      refine (c5.out _).mono ?_; rintro e w8 ⟨rfl, x_w8⟩
      have x8 := Ext.trans x7 x_w8
      clear x_w8
      go_wp2_with fail
      refine (ka.out _).mono ?_; rintro e w9 ⟨rfl, x_w9⟩
      go_wp2_with fail
      go_ret
      exact ⟨rfl, (X_wc.out.trans x8).trans x_w9⟩
    · have j1 := dlt_f e1
      have j2 := dlt_t (show i < n by omega)
      have ez := fun w => eqs_4 0 0 0 0 w
      clear e1
      refine (c5.out _).mono ?_; rintro e w8 ⟨rfl, x_w8⟩
      have x8 := Ext.trans x7 x_w8
      clear x_w8
      go_wp2_with fail
      refine (ka.out _).mono ?_; rintro e w9 ⟨rfl, x_w9⟩
      go_wp2_with fail
      go_ret
      exact ⟨rfl, (X_wc.out.trans x8).trans x_w9⟩
    · have j1 := dlt_t e1
      have j2 := dlt_f e2
      have ez := fun w => eqs_4 a b c d w
      clear e1 e2
      refine (c5.out _).mono ?_; rintro e w8 ⟨rfl, x_w8⟩
      have x8 := Ext.trans x7 x_w8
      clear x_w8
      go_wp2_with fail
      refine (ka.out _).mono ?_; rintro e w9 ⟨rfl, x_w9⟩
      go_wp2_with fail
      go_ret
      exact ⟨rfl, (X_wc.out.trans x8).trans x_w9⟩
theorem law_DdaSigns (a b c d i : Int) (w : World) : Calls Try.prog 8 #[.agg #[.int .i64 a, .int .i64 b, .int .i64 c, .int .i64 d], .int .i64 i] w fun e w' => e = .returned (.bool true) ∧ Ext w w' := by
  by_cases hv : DVal a b c d
  · obtain ⟨r0, _⟩ := dom_range hv
    have hv' := dval_neg hv
    refine law_DdaSigns_in a b c d i (dom a b c d) _ _ _ _ (-atv a (dom a b c d) (max 0 (min i (dom a b c d)))) (-atv b (dom a b c d) (max 0 (min i (dom a b c d)))) (-atv c (dom a b c d) (max 0 (min i (dom a b c d)))) (-atv d (dom a b c d) (max 0 (min i (dom a b c d)))) hv (.inl ⟨hv, rfl⟩) (.inl ⟨hv', (dom_neg a b c d).symm⟩) r0 (.inl ⟨hv, rfl, rfl, rfl, rfl⟩) (.inl ⟨hv', ?_, ?_, ?_, ?_⟩) (Int.neg_neg _) (Int.neg_neg _) (Int.neg_neg _) (Int.neg_neg _) ?_ w
    · rw [dom_neg, atv_neg r0]
    · rw [dom_neg, atv_neg r0]
    · rw [dom_neg, atv_neg r0]
    · rw [dom_neg, atv_neg r0]
    · by_cases h0 : 0 < i
      · by_cases h1 : i < dom a b c d
        · exact .inl ⟨h0, h1⟩
        · have e : max 0 (min i (dom a b c d)) = dom a b c d := by omega
          rw [e, atv_all r0, atv_all r0, atv_all r0, atv_all r0]
          exact .inr (.inr ⟨h0, by omega, rfl, rfl, rfl, rfl⟩)
      · have e : max 0 (min i (dom a b c d)) = 0 := by omega
        rw [e, atv_zero r0, atv_zero r0, atv_zero r0, atv_zero r0]
        exact .inr (.inl ⟨by omega, rfl, rfl, rfl, rfl⟩)
  · have ka := Lib.hid law_awake42
    have c1 := Lib.hid fun w => dda_DValid a b c d false (by rw [decide_eq_false hv]) w
    clear hv
    go_enter Try.func8, Try.ntmps8
    go_wp2_with fail
    refine (c1.out _).mono ?_; rintro e w1 ⟨rfl, x_w1⟩
    obtain ⟨k_w1, f_w1⟩ := bcell x_w1
    have X_w1 := Lib.hid (show Ext w w1 from Ext.trans (by (repeat' (with_reducible first | refine Ext.drew ?_ | refine Ext.drewN ?_ _ | refine Ext.alloc ?_ _ | exact Ext.refl _ | fail | (refine Ext.setCell ?_ ?_ _; rotate_left; (focus ((try simp); try omega)))))) x_w1)
    clear x_w1
    go_wp2_with fail
    refine (ka.out _).mono ?_; rintro e w2 ⟨rfl, x_w2⟩
    obtain ⟨k_w2, f_w2⟩ := bcell x_w2
    have X_w2 := Lib.hid (show Ext w w2 from Ext.trans (by (repeat' (with_reducible first | refine Ext.drew ?_ | refine Ext.drewN ?_ _ | refine Ext.alloc ?_ _ | exact Ext.refl _ | exact X_w1.out | (refine Ext.setCell ?_ ?_ _; rotate_left; (focus ((try simp); try omega)))))) x_w2)
    clear x_w2
    go_wp2_with fail
    go_ret
    exact ⟨rfl, by (repeat' (with_reducible first | refine Ext.drew ?_ | refine Ext.drewN ?_ _ | refine Ext.alloc ?_ _ | exact Ext.refl _ | exact X_w2.out | exact X_w1.out | (refine Ext.setCell ?_ ?_ _; rotate_left; (focus ((try simp); try omega)))))⟩
end Go.Proofs.Ytnljefglidhnjaa

