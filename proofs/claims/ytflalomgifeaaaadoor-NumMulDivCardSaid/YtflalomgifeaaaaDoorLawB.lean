/-
  The walks of the laws NumSums, NumQuotients, NumRoots and NumMulDiv: each answers true, in every world in which the library's table lies as its text lays it.
-/
import Derived.Test.YtflalomgifeaaaaDoorLawA
import Derived.Test.YtflalomgifeaaaaDoorRefC
namespace Go.Proofs.YtflalomgifeaaaaDoor
open Go.RowKit
theorem calls_ext {P : Program} {f : FuncId} {args : Array Value} {w : World} {e0 : Ending} (h : Calls P f args w fun e w' => e = e0 ∧ w = w') : Calls P f args w fun e w' => e = e0 ∧ Ext w w' :=
  h.mono fun _ _ ⟨he, hw⟩ => ⟨he, hw ▸ Ext.refl _⟩
set_option maxHeartbeats 1000000 in
theorem law_NumSums (a : Int) (a0 : -9223372036854775808 ≤ a) (a1 : a ≤ 9223372036854775807) (b : Int) (b0 : -9223372036854775808 ≤ b) (b1 : b ≤ 9223372036854775807) (w : World) (ht : Tab w) :
    Calls Tryd.prog 3 #[.int .i64 a, .int .i64 b] w fun e w' => e = .returned (.bool true) ∧ Ext w w' := by
  have c1 := num_Add a b a0 a1 b0 b1
  have c2 := ref_Add a b a0 a1 b0 b1
  have c3 := num_Sub a b a0 a1 b0 b1
  have c4 := ref_Sub a b a0 a1 b0 b1
  have c5 := num_Mul a b a0 a1 b0 b1
  have c6 := ref_Mul a b a0 a1 b0 b1
  unfold Res at c1 c2 c3 c4 c5 c6
  generalize fit (a + b) = p1 at *
  generalize fit (a - b) = p2 at *
  generalize quo (a * b) 1 = p3 at *
  obtain ⟨x1, e1⟩ := p1; obtain ⟨x2, e2⟩ := p2; obtain ⟨x3, e3⟩ := p3
  have C1 := Lib.hid c1; have C2 := Lib.hid c2; have C3 := Lib.hid c3; have C4 := Lib.hid c4; have C5 := Lib.hid c5; have C6 := Lib.hid c6
  clear c1 c2 c3 c4 c5 c6
  go_enter Tryd.func3, Tryd.ntmps3
  go_wp2_with fail
  refine (C1.out _).mono ?_; rintro e w' ⟨rfl, rfl⟩
  go_wp2_with fail
  refine (C2.out _).mono ?_; rintro e w' ⟨rfl, rfl⟩
  go_wp2_with fail
  refine (C3.out _).mono ?_; rintro e w' ⟨rfl, rfl⟩
  go_wp2_with fail
  refine (C4.out _).mono ?_; rintro e w' ⟨rfl, rfl⟩
  go_wp2_with fail
  refine (C5.out _).mono ?_; rintro e w1 ⟨rfl, h1⟩
  go_wp2_with fail
  refine (C6.out _).mono ?_; rintro e w' ⟨rfl, rfl⟩
  go_wp2_with fail
  refine (law_same _ _ _).mono ?_; rintro e w' ⟨rfl, rfl⟩
  go_wp2_with fail
  refine (law_same _ _ _).mono ?_; rintro e w' ⟨rfl, rfl⟩
  go_wp2_with fail
  refine (law_same _ _ _).mono ?_; rintro e w' ⟨rfl, rfl⟩
  go_wp2_with fail
  refine (law_awake _ (ht.ext h1)).mono ?_; rintro e w2 ⟨rfl, h2⟩
  go_wp2_with fail
  go_ret
  exact ⟨rfl, h1.trans h2⟩
/-- Floor and Round together. -/
theorem quo_rnd (a : Int) (a0 : -9223372036854775808 ≤ a) (a1 : a ≤ 9223372036854775807) (b : Int) : (∃ k, k ≠ 0 ∧ quo a b = (0, k) ∧ rnd a b = (0, k)) ∨ (∃ q, quo a b = (q, 0) ∧ rnd a b = (q, 0)) ∨ (∃ q, quo a b = (q, 0) ∧ rnd a b = (q + 1, 0) ∧ -9223372036854775808 ≤ q ∧ q + 1 ≤ 9223372036854775807) := by
  by_cases hb : b = 0
  · subst hb; exact .inl ⟨4, by decide, rfl, rfl⟩
  by_cases hov : a = -9223372036854775808 ∧ b = -1
  · obtain ⟨rfl, rfl⟩ := hov; exact .inl ⟨3, by decide, quo_over, rnd_over⟩
  obtain ⟨q, r, h, hr⟩ := exists_fl a b hb
  have hq := quo_of a0 a1 hb hov h hr
  have hf := fl_range a b a0 a1 hb hov
  rw [fl_of h hr] at hf
  rcases rnd_of a0 a1 hb hov h hr with ⟨_, h1, h2⟩ | ⟨_, h1⟩
  · exact .inr (.inr ⟨q, hq, h1, hf.1, h2⟩)
  · exact .inr (.inl ⟨q, hq, h1⟩)
set_option maxHeartbeats 1000000 in
theorem law_NumQuotients (a : Int) (a0 : -9223372036854775808 ≤ a) (a1 : a ≤ 9223372036854775807) (b : Int) (b0 : -9223372036854775808 ≤ b) (b1 : b ≤ 9223372036854775807) (w : World) (ht : Tab w) :
    Calls Tryd.prog 4 #[.int .i64 a, .int .i64 b] w fun e w' => e = .returned (.bool true) ∧ Ext w w' := by
  have c1 := num_Floor a b a0 a1 b0 b1
  have c2 := ref_Floor a b a0 a1 b0 b1
  have c3 := num_Round a b a0 a1 b0 b1
  have c4 := ref_Round a b a0 a1 b0 b1
  have key := quo_rnd a a0 a1 b
  unfold Res at c1 c2 c3 c4
  generalize quo a b = p1 at *
  generalize rnd a b = p2 at *
  rcases key with ⟨k, hk, rfl, rfl⟩ | ⟨q, rfl, rfl⟩ | ⟨q, rfl, rfl, q0, q1⟩
  · have dk := bne_t hk
    have dk' : (k == 0) = false := beq_f hk
    have C1 := Lib.hid c1; have C2 := Lib.hid c2; have C3 := Lib.hid c3; have C4 := Lib.hid c4
    clear c1 c2 c3 c4
    go_enter Tryd.func4, Tryd.ntmps4
    go_wp2_with fail
    refine (C1.out _).mono ?_; rintro e w1 ⟨rfl, h1⟩
    go_wp2_with fail
    refine (C2.out _).mono ?_; rintro e w' ⟨rfl, rfl⟩
    go_wp2_with fail
    refine (C3.out _).mono ?_; rintro e w2 ⟨rfl, h2⟩
    go_wp2_with fail
    refine (C4.out _).mono ?_; rintro e w' ⟨rfl, rfl⟩
    go_wp2_with fail
    refine (law_same _ _ _).mono ?_; rintro e w' ⟨rfl, rfl⟩
    go_wp2_with fail
    refine (law_same _ _ _).mono ?_; rintro e w' ⟨rfl, rfl⟩
    go_wp2_with fail
    refine (law_awake _ (ht.ext (h1.trans h2))).mono ?_; rintro e w3 ⟨rfl, h3⟩
    go_wp2_with fail
    go_ret
    exact ⟨rfl, (h1.trans h2).trans h3⟩
  · have C1 := Lib.hid c1; have C2 := Lib.hid c2; have C3 := Lib.hid c3; have C4 := Lib.hid c4
    clear c1 c2 c3 c4
    go_enter Tryd.func4, Tryd.ntmps4
    go_wp2_with fail
    refine (C1.out _).mono ?_; rintro e w1 ⟨rfl, h1⟩
    go_wp2_with fail
    refine (C2.out _).mono ?_; rintro e w' ⟨rfl, rfl⟩
    go_wp2_with fail
    refine (C3.out _).mono ?_; rintro e w2 ⟨rfl, h2⟩
    go_wp2_with fail
    refine (C4.out _).mono ?_; rintro e w' ⟨rfl, rfl⟩
    go_wp2_with fail
    refine (law_same _ _ _).mono ?_; rintro e w' ⟨rfl, rfl⟩
    go_wp2_with fail
    refine (law_same _ _ _).mono ?_; rintro e w' ⟨rfl, rfl⟩
    go_wp2_with fail
    refine (law_awake _ (ht.ext (h1.trans h2))).mono ?_; rintro e w3 ⟨rfl, h3⟩
    go_wp2_with fail
    go_ret
    exact ⟨rfl, (h1.trans h2).trans h3⟩
  · have C1 := Lib.hid c1; have C2 := Lib.hid c2; have C3 := Lib.hid c3; have C4 := Lib.hid c4
    have dq : (q + 1 == q) = false := beq_f (by omega)
    have dq2 : (q + 1 == q + 1) = true := beq_t rfl
    clear c1 c2 c3 c4
    go_enter Tryd.func4, Tryd.ntmps4
    go_wp2_with fail
    refine (C1.out _).mono ?_; rintro e w1 ⟨rfl, h1⟩
    go_wp2_with fail
    refine (C2.out _).mono ?_; rintro e w' ⟨rfl, rfl⟩
    go_wp2_with fail
    refine (C3.out _).mono ?_; rintro e w2 ⟨rfl, h2⟩
    go_wp2_with fail
    refine (C4.out _).mono ?_; rintro e w' ⟨rfl, rfl⟩
    go_wp2_with fail
    refine (law_same _ _ _).mono ?_; rintro e w' ⟨rfl, rfl⟩
    go_wp2_with fail
    refine (law_same _ _ _).mono ?_; rintro e w' ⟨rfl, rfl⟩
    go_wp2_with fail
    refine (law_awake _ (ht.ext (h1.trans h2))).mono ?_; rintro e w3 ⟨rfl, h3⟩
    go_wp2_with fail
    go_ret
    exact ⟨rfl, (h1.trans h2).trans h3⟩
set_option maxHeartbeats 1000000 in
theorem law_NumRoots (n : Int) (n0 : -9223372036854775808 ≤ n) (n1 : n ≤ 9223372036854775807) (w : World) (ht : Tab w) :
    Calls Tryd.prog 6 #[.int .i64 n] w fun e w' => e = .returned (.bool true) ∧ Ext w w' := by
  have c1 := num_Isqrt n n0 n1
  have c2 := ref_Isqrt n n0 n1
  unfold Res at c1 c2
  by_cases hn : n < 0
  · rw [rt_neg hn] at c1 c2
    have dn := dlt_t hn
    have C1 := Lib.hid c1; have C2 := Lib.hid c2
    clear c1 c2
    go_enter Tryd.func6, Tryd.ntmps6
    go_wp2_with fail
    refine (C1.out _).mono ?_; rintro e w' ⟨rfl, rfl⟩
    go_wp2_with fail
    refine (C2.out _).mono ?_; rintro e w' ⟨rfl, rfl⟩
    go_wp2_with fail
    refine (law_same _ _ _).mono ?_; rintro e w' ⟨rfl, rfl⟩
    go_wp2_with fail
    refine (law_awake _ ht).mono ?_; rintro e w3 ⟨rfl, h3⟩
    go_wp2_with fail
    go_ret
    exact ⟨rfl, h3⟩
  · obtain ⟨r, r0, r1, r2, e⟩ := rt_of (n := n) (by omega)
    rw [e] at c1 c2
    have rb := root_le r1 n1
    have t1 := root_test (y := r + 1) r0 r1 r2 (by omega)
    have t2 := fun h : 0 < r => (root_test (y := r) r0 r1 r2 h).2 (Int.le_refl _)
    have q0 : 0 ≤ n / (r + 1) := Int.ediv_nonneg (by omega) (by omega)
    have q1 : n / (r + 1) ≤ n := Int.ediv_le_self _ (by omega)
    have d1 : n / (r + 1) < r + 1 := by
      rcases Int.lt_or_le (n / (r + 1)) (r + 1) with u | u
      · exact u
      · have := t1.1 u; omega
    have d1' := dlt_t d1
    have dr : decide (r < 0) = false := dlt_f r0
    have dr2 : decide (4294967296 ≤ r) = false := dle_f (by omega)
    have nn : 0 ≤ n := by omega
    have C1 := Lib.hid c1; have C2 := Lib.hid c2
    clear c1 c2 r1 r2 e t1 hn
    rcases (show r = 0 ∨ 0 < r by omega) with hr | hr
    · subst hr
      clear t2
      go_enter Tryd.func6, Tryd.ntmps6
      go_wp2_with fail
      refine (C1.out _).mono ?_; rintro e w' ⟨rfl, rfl⟩
      go_wp2_with fail
      refine (C2.out _).mono ?_; rintro e w' ⟨rfl, rfl⟩
      go_wp2_with fail
      refine (law_same _ _ _).mono ?_; rintro e w' ⟨rfl, rfl⟩
      go_wp2_with fail
      refine (law_awake _ ht).mono ?_; rintro e w3 ⟨rfl, h3⟩
      go_wp2_with fail
      go_ret
      exact ⟨rfl, h3⟩
    · have s0 : 0 ≤ n / r := Int.ediv_nonneg nn (by omega)
      have s1 : n / r ≤ n := Int.ediv_le_self _ nn
      have d2 := t2 hr
      have d3 := dlt_t hr
      have d4 : decide (n / r < r) = false := dlt_f d2
      clear t2
      go_enter Tryd.func6, Tryd.ntmps6
      go_wp2_with fail
      refine (C1.out _).mono ?_; rintro e w' ⟨rfl, rfl⟩
      go_wp2_with fail
      refine (C2.out _).mono ?_; rintro e w' ⟨rfl, rfl⟩
      go_wp2_with fail
      refine (law_same _ _ _).mono ?_; rintro e w' ⟨rfl, rfl⟩
      go_wp2_with fail
      refine (law_awake _ ht).mono ?_; rintro e w3 ⟨rfl, h3⟩
      go_wp2_with fail
      go_ret
      exact ⟨rfl, h3⟩
/-- The exact quotient and what it leaves. -/
theorem quo_parts (n : Int) (c : Int) : (∃ k, k ≠ 0 ∧ quo n c = (0, k)) ∨ (∃ q r, quo n c = (q, 0) ∧ n = c * q + r ∧ ((0 ≤ r ∧ r < c) ∨ (c < r ∧ r ≤ 0))) := by
  by_cases hc : c = 0
  · subst hc; exact .inl ⟨4, by decide, rfl⟩
  obtain ⟨q, r, h, hr⟩ := exists_fl n c hc
  have e : quo n c = fit q := by unfold quo; rw [if_neg hc, fl_of h hr]
  by_cases hq : -9223372036854775808 ≤ q ∧ q ≤ 9223372036854775807
  · exact .inr ⟨q, r, by rw [e, fit_in hq.1 hq.2], h, hr⟩
  · exact .inl ⟨3, by decide, by rw [e, fit_out (by omega)]⟩
theorem quo_back (a b : Int) (hb : b ≠ 0) (a0 : -9223372036854775808 ≤ a) (a1 : a ≤ 9223372036854775807) : quo (a * b) b = (a, 0) := by
  unfold quo
  rw [if_neg hb, fl_of (q := a) (r := 0) (by rw [Int.mul_comm]; omega) (by omega), fit_in a0 a1]
theorem left_of (P z r : Int) (h : P = z + r) (r0 : -9223372036854775808 ≤ r) (r1 : r ≤ 9223372036854775807) : wrap64 (wrap64 P - wrap64 z) = r := by
  unfold wrap64; omega
set_option maxHeartbeats 1000000 in
theorem law_NumMulDiv (a : Int) (a0 : -9223372036854775808 ≤ a) (a1 : a ≤ 9223372036854775807) (b : Int) (b0 : -9223372036854775808 ≤ b) (b1 : b ≤ 9223372036854775807) (c : Int) (c0 : -9223372036854775808 ≤ c) (c1_ : c ≤ 9223372036854775807) (w : World) (ht : Tab w) :
    Calls Tryd.prog 5 #[.int .i64 a, .int .i64 b, .int .i64 c] w fun e w' => e = .returned (.bool true) ∧ Ext w w' := by
  have c1 := num_MulDiv a b c a0 a1 b0 b1 c0 c1_
  have c2 := ref_MulDiv a b c a0 a1 b0 b1 c0 c1_
  have c3 := num_MulDiv a b b a0 a1 b0 b1 b0 b1
  have key := quo_parts (a * b) c
  have kb : (b = 0 ∧ quo (a * b) b = (0, 4) ∧ (b == 0) = true) ∨ (quo (a * b) b = (a, 0) ∧ (b == 0) = false) := by
    by_cases hb : b = 0
    · subst hb; exact .inl ⟨rfl, rfl, rfl⟩
    · exact .inr ⟨quo_back a b hb a0 a1, beq_f hb⟩
  unfold Res at c1 c2 c3
  generalize quo (a * b) b = p2 at *
  generalize quo (a * b) c = p1 at *
  rcases key with ⟨k, hk, rfl⟩ | ⟨q, r, rfl, hP, hr⟩
  · have dk : (k == 0) = false := beq_f hk
    rcases kb with ⟨-, rfl, hb⟩ | ⟨rfl, hb⟩
    all_goals
      have C1 := Lib.hid c1; have C2 := Lib.hid c2; have C3 := Lib.hid c3
      clear c1 c2 c3
      go_enter Tryd.func5, Tryd.ntmps5
      go_wp2_with fail
      refine (C1.out _).mono ?_; rintro e w1 ⟨rfl, h1⟩
      go_wp2_with fail
      refine (C2.out _).mono ?_; rintro e w' ⟨rfl, rfl⟩
      go_wp2_with fail
      refine (law_same _ _ _).mono ?_; rintro e w' ⟨rfl, rfl⟩
      go_wp2_with fail
      refine (C3.out _).mono ?_; rintro e w2 ⟨rfl, h2⟩
      go_wp2_with fail
      refine (law_awake _ (ht.ext (h1.trans h2))).mono ?_; rintro e w3 ⟨rfl, h3⟩
      go_wp2_with fail
      go_ret
      exact ⟨rfl, (h1.trans h2).trans h3⟩
  · have hl := left_of (a * b) (q * c) r (by rw [Int.mul_comm q c]; exact hP) (by omega) (by omega)
    clear hP
    by_cases r0 : r = 0
    · subst r0
      rcases kb with ⟨-, rfl, hb⟩ | ⟨rfl, hb⟩
      all_goals
        have C1 := Lib.hid c1; have C2 := Lib.hid c2; have C3 := Lib.hid c3
        clear c1 c2 c3
        go_enter Tryd.func5, Tryd.ntmps5
        go_wp2_with fail
        refine (C1.out _).mono ?_; rintro e w1 ⟨rfl, h1⟩
        go_wp2_with fail
        refine (C2.out _).mono ?_; rintro e w' ⟨rfl, rfl⟩
        go_wp2_with fail
        refine (law_same _ _ _).mono ?_; rintro e w' ⟨rfl, rfl⟩
        go_wp2_with fail
        refine (C3.out _).mono ?_; rintro e w2 ⟨rfl, h2⟩
        go_wp2_with fail
        refine (law_awake _ (ht.ext (h1.trans h2))).mono ?_; rintro e w3 ⟨rfl, h3⟩
        go_wp2_with fail
        go_ret
        exact ⟨rfl, (h1.trans h2).trans h3⟩
    · have dr : (r != 0) = true := bne_t r0
      have s1 := law_size r (by omega) (by omega)
      have s2 := law_size c c0 c1_
      have sg : decide (r < 0) = decide (c < 0) := by
        by_cases u : c < 0
        · rw [dlt_t u, dlt_t (by omega)]
        · rw [dlt_f (by omega), dlt_f (by omega)]
      have lt : (r.natAbs : Int) < c.natAbs := by omega
      have bd : 0 ≤ (r.natAbs : Int) := by omega
      generalize (r.natAbs : Int) = R at *
      generalize (c.natAbs : Int) = D at *
      have d1 := dle_f lt
      have S1 := Lib.hid s1; have S2 := Lib.hid s2
      clear s1 s2
      rcases kb with ⟨-, rfl, hb⟩ | ⟨rfl, hb⟩
      all_goals
        have C1 := Lib.hid c1; have C2 := Lib.hid c2; have C3 := Lib.hid c3
        clear c1 c2 c3
        go_enter Tryd.func5, Tryd.ntmps5
        go_wp2_with fail
        refine (C1.out _).mono ?_; rintro e w1 ⟨rfl, h1⟩
        go_wp2_with fail
        refine (C2.out _).mono ?_; rintro e w' ⟨rfl, rfl⟩
        go_wp2_with fail
        refine (law_same _ _ _).mono ?_; rintro e w' ⟨rfl, rfl⟩
        go_wp2_with fail
        refine (S1.out _).mono ?_; rintro e w' ⟨rfl, rfl⟩
        go_wp2_with fail
        refine (S2.out _).mono ?_; rintro e w' ⟨rfl, rfl⟩
        go_wp2_with fail
        refine (C3.out _).mono ?_; rintro e w2 ⟨rfl, h2⟩
        go_wp2_with fail
        refine (law_awake _ (ht.ext (h1.trans h2))).mono ?_; rintro e w3 ⟨rfl, h3⟩
        go_wp2_with fail
        go_ret
        exact ⟨rfl, (h1.trans h2).trans h3⟩
end Go.Proofs.YtflalomgifeaaaaDoor
