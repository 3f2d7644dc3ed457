/-
  The walks of the laws of package wire whose arguments are plain: each answers true.
-/
import Derived.Test.YtpckhcnlffddcaaWireU
namespace Go.Proofs.Ytpckhcnlffddcaa
open Go.RowKit
theorem i64_range {n : Int} (h : (Lit.int .i64 n).wf = true) : -9223372036854775808 ≤ n ∧ n ≤ 9223372036854775807 := by
  have h1 : IntKind.i64.min = -9223372036854775808 := by decide
  have h2 : IntKind.i64.max = 9223372036854775807 := by decide
  replace h : (decide (IntKind.i64.min ≤ n) && decide (n ≤ IntKind.i64.max)) = true := h
  rw [h1, h2, Bool.and_eq_true, decide_eq_true_iff, decide_eq_true_iff] at h
  exact h
theorem u8_range {n : Int} (h : (Lit.int .u8 n).wf = true) : 0 ≤ n ∧ n ≤ 255 := by
  have h1 : IntKind.u8.min = 0 := by decide
  have h2 : IntKind.u8.max = 255 := by decide
  replace h : (decide (IntKind.u8.min ≤ n) && decide (n ≤ IntKind.u8.max)) = true := h
  rw [h1, h2, Bool.and_eq_true, decide_eq_true_iff, decide_eq_true_iff] at h
  exact h
theorem law_awake (w : World) : Calls Try.prog 13 #[] w fun e w' => e = .returned (.bool true) ∧ Ext w w' := by
  have c := fun w => wire_Uint 258 2 (by omega) (by omega) w
  rw [show uintS 258 2 = ([1, 2], 0) by decide] at c
  unfold ResS at c
  have C := Lib.hid c
  clear c
  go_enter Try.func13, Try.ntmps13
  go_wp2_with fail
  refine (C.out _).mono ?_; rintro e w1 ⟨rfl, h1⟩
  go_wp2_with fail
  go_ret
  exact ⟨rfl, h1⟩
theorem law_WireUints (n : Int) (n0 : -9223372036854775808 ≤ n) (n1 : n ≤ 9223372036854775807) (k : Int) (_ : -9223372036854775808 ≤ k) (_ : k ≤ 9223372036854775807) (w : World) :
    Calls Try.prog 3 #[.int .i64 n, .int .i64 k] w fun e w' => e = .returned (.bool true) ∧ Ext w w' := by
  have c1 := wire_Uint n k n0 n1
  have c2 := ref_Uint n k n0 n1
  unfold ResS at c1 c2
  generalize uintS n k = p at *
  obtain ⟨l, e⟩ := p
  have C1 := Lib.hid c1; have C2 := Lib.hid c2
  clear c1 c2
  go_enter Try.func3, Try.ntmps3
  go_wp2_with fail
  refine (C1.out _).mono ?_; rintro e w1 ⟨rfl, h1⟩
  go_wp2_with fail
  refine (C2.out _).mono ?_; rintro e w2 ⟨rfl, h2⟩
  go_wp2_with fail
  refine (law_awake _).mono ?_; rintro e w3 ⟨rfl, h3⟩
  go_wp2_with fail
  go_ret
  exact ⟨rfl, (h1.trans h2).trans h3⟩
theorem law_WireInts (n : Int) (n0 : -9223372036854775808 ≤ n) (n1 : n ≤ 9223372036854775807) (k : Int) (_ : -9223372036854775808 ≤ k) (_ : k ≤ 9223372036854775807) (w : World) :
    Calls Try.prog 4 #[.int .i64 n, .int .i64 k] w fun e w' => e = .returned (.bool true) ∧ Ext w w' := by
  have c1 := wire_Int n k n0 n1
  have c2 := ref_Int n k n0 n1
  unfold ResS at c1 c2
  generalize intS n k = p at *
  obtain ⟨l, e⟩ := p
  have C1 := Lib.hid c1; have C2 := Lib.hid c2
  clear c1 c2
  go_enter Try.func4, Try.ntmps4
  go_wp2_with fail
  refine (C1.out _).mono ?_; rintro e w1 ⟨rfl, h1⟩
  go_wp2_with fail
  refine (C2.out _).mono ?_; rintro e w2 ⟨rfl, h2⟩
  go_wp2_with fail
  refine (law_awake _).mono ?_; rintro e w3 ⟨rfl, h3⟩
  go_wp2_with fail
  go_ret
  exact ⟨rfl, (h1.trans h2).trans h3⟩
set_option maxHeartbeats 1000000 in
theorem law_WireTakes (s : ByteArray) (hs : s.size ≤ maxLen) (a : Int) (_ : -9223372036854775808 ≤ a) (_ : a ≤ 9223372036854775807) (k : Int) (_ : -9223372036854775808 ≤ k) (_ : k ≤ 9223372036854775807) (w : World) :
    Calls Try.prog 5 #[.string s, .int .i64 a, .int .i64 k] w fun e w' => e = .returned (.bool true) ∧ Ext w w' := by
  unfold maxLen at hs
  have c1 := wire_TakeUint s a k (by omega)
  have c2 := ref_TakeUint s a k (by omega)
  have c3 := wire_TakeInt s a k (by omega)
  have c4 := ref_TakeInt s a k (by omega)
  unfold Res3 at c1 c2 c3 c4
  generalize takeU s.data.toList a k = p at *
  generalize takeI s.data.toList a k = q at *
  obtain ⟨x, y, z⟩ := p
  obtain ⟨x', y', z'⟩ := q
  have C1 := Lib.hid c1; have C2 := Lib.hid c2; have C3 := Lib.hid c3; have C4 := Lib.hid c4
  have s1 : (s.size : Int) ≤ 9223372036854775807 := by omega
  clear c1 c2 c3 c4 hs
  by_cases h : (1000 : Int) < s.size
  · have d := dlt_t h
    go_enter Try.func5, Try.ntmps5
    go_wp2_with fail
    refine (law_awake _).mono ?_; rintro e w3 ⟨rfl, h3⟩
    go_wp2_with fail
    go_ret
    exact ⟨rfl, h3⟩
  · have d : decide ((1000 : Int) < s.size) = false := dlt_f (by omega)
    go_enter Try.func5, Try.ntmps5
    go_wp2_with fail
    refine (C1.out _).mono ?_; rintro e w' ⟨rfl, rfl⟩
    go_wp2_with fail
    refine (C2.out _).mono ?_; rintro e w' ⟨rfl, rfl⟩
    go_wp2_with fail
    refine (C3.out _).mono ?_; rintro e w' ⟨rfl, rfl⟩
    go_wp2_with fail
    refine (C4.out _).mono ?_; rintro e w' ⟨rfl, rfl⟩
    go_wp2_with fail
    refine (law_awake _).mono ?_; rintro e w3 ⟨rfl, h3⟩
    go_wp2_with fail
    go_ret
    exact ⟨rfl, h3⟩
set_option maxHeartbeats 1000000 in
theorem law_WireTexts (s : ByteArray) (hs : s.size ≤ maxLen) (a : Int) (_ : -9223372036854775808 ≤ a) (_ : a ≤ 9223372036854775807) (k : Int) (_ : -9223372036854775808 ≤ k) (_ : k ≤ 9223372036854775807) (w : World) :
    Calls Try.prog 6 #[.string s, .int .i64 a, .int .i64 k] w fun e w' => e = .returned (.bool true) ∧ Ext w w' := by
  unfold maxLen at hs
  have c1 := wire_Text s (by omega)
  have c2 := ref_Text s (by omega)
  have c3 := wire_TakeText s a k (by omega)
  have c4 := ref_TakeText s a k (by omega)
  unfold ResS at c1 c2
  unfold ResSI at c3 c4
  generalize takeT s.data.toList a k = p at *
  generalize textS s.data.toList = q at *
  obtain ⟨x, y, z⟩ := p
  obtain ⟨x', y'⟩ := q
  have C1 := Lib.hid c1; have C2 := Lib.hid c2; have C3 := Lib.hid c3; have C4 := Lib.hid c4
  have s1 : (s.size : Int) ≤ 9223372036854775807 := by omega
  clear c1 c2 c3 c4 hs
  by_cases h : (1000 : Int) < s.size
  · have d := dlt_t h
    go_enter Try.func6, Try.ntmps6
    go_wp2_with fail
    refine (law_awake _).mono ?_; rintro e w3 ⟨rfl, h3⟩
    go_wp2_with fail
    go_ret
    exact ⟨rfl, h3⟩
  · have d : decide ((1000 : Int) < s.size) = false := dlt_f (by omega)
    go_enter Try.func6, Try.ntmps6
    go_wp2_with fail
    refine (C1.out _).mono ?_; rintro e w1 ⟨rfl, h1⟩
    go_wp2_with fail
    refine (C2.out _).mono ?_; rintro e w2 ⟨rfl, h2⟩
    go_wp2_with fail
    refine (C3.out _).mono ?_; rintro e w' ⟨rfl, rfl⟩
    go_wp2_with fail
    refine (C4.out _).mono ?_; rintro e w' ⟨rfl, rfl⟩
    go_wp2_with fail
    refine (law_awake _).mono ?_; rintro e w3 ⟨rfl, h3⟩
    go_wp2_with fail
    go_ret
    exact ⟨rfl, (h1.trans h2).trans h3⟩
set_option maxHeartbeats 1000000 in
theorem law_WirePads (s : ByteArray) (hs : s.size ≤ maxLen) (n : Int) (_ : -9223372036854775808 ≤ n) (_ : n ≤ 9223372036854775807) (w : World) :
    Calls Try.prog 8 #[.string s, .int .i64 n] w fun e w' => e = .returned (.bool true) ∧ Ext w w' := by
  unfold maxLen at hs
  have c1 := wire_Pad s n (by omega)
  have c2 := ref_Pad s n (by omega)
  unfold ResS at c1 c2
  generalize padS s.data.toList n = q at *
  obtain ⟨x', y'⟩ := q
  have C1 := Lib.hid c1; have C2 := Lib.hid c2
  have s1 : (s.size : Int) ≤ 9223372036854775807 := by omega
  clear c1 c2 hs
  by_cases h : (1000 : Int) < s.size
  · have d := dlt_t h
    go_enter Try.func8, Try.ntmps8
    go_wp2_with fail
    refine (law_awake _).mono ?_; rintro e w3 ⟨rfl, h3⟩
    go_wp2_with fail
    go_ret
    exact ⟨rfl, h3⟩
  · have d : decide ((1000 : Int) < s.size) = false := dlt_f (by omega)
    go_enter Try.func8, Try.ntmps8
    go_wp2_with fail
    refine (C1.out _).mono ?_; rintro e w1 ⟨rfl, h1⟩
    go_wp2_with fail
    refine (C2.out _).mono ?_; rintro e w2 ⟨rfl, h2⟩
    go_wp2_with fail
    refine (law_awake _).mono ?_; rintro e w3 ⟨rfl, h3⟩
    go_wp2_with fail
    go_ret
    exact ⟨rfl, (h1.trans h2).trans h3⟩
end Go.Proofs.Ytpckhcnlffddcaa

