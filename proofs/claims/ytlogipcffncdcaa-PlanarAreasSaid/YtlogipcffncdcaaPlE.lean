/-
  Contracts of package planar and of the document's own answers: the document's On.
-/
import Derived.Test.YtlogipcffncdcaaPlD
namespace Go.Proofs.Ytlogipcffncdcaa
open Go.RowKit
theorem ref_between (n a b : Int) (t : Bool) (h : t = decide (min a b ≤ n ∧ n ≤ max a b)) (w : World) :
    Calls Try.prog 37 #[.int .i64 n, .int .i64 a, .int .i64 b] w fun e w' => e = .returned (.bool t) ∧ w = w' := by
  have HB := Lib.hid h; clear h
  go_enter Try.func37, Try.ntmps37
  go_wp2_with fail
  all_goals
    go_ret
    refine ⟨ret_b (Eq.symm ?_), rfl⟩
    rw [HB.out]
    first
    | exact decide_eq_false (by omega)
    | exact decide_eq_true (by omega)
    | (rw [decide_eq_decide]; omega)
    | (rw [Bool.eq_iff_iff]; simp only [decide_eq_true_eq, Bool.or_eq_true]; omega)
set_option maxHeartbeats 2000000 in
theorem additiveref05_On (x y u v a b : Int) (t : Bool) (h : POn x y u v a b t) (w : World) :
    Calls Try.prog 25 #[.agg #[.int .i64 a, .int .i64 b], .agg #[.int .i64 x, .int .i64 y, .int .i64 u, .int .i64 v]] w fun e w' => e = .returned (.bool t) ∧ Ext w w' := by
  unfold POn at h
  by_cases i1 : In2 16777216 a b
  · have c1 := Lib.hid fun w => additiveref05_Valid a b true (by rw [decide_eq_true i1]) w
    by_cases i2 : In2 16777216 x y
    · have c2 := Lib.hid fun w => additiveref05_Valid x y true (by rw [decide_eq_true i2]) w
      by_cases i3 : In2 16777216 u v
      · have c3 := Lib.hid fun w => additiveref05_Valid u v true (by rw [decide_eq_true i3]) w
        have c4 := Lib.hid fun w => additiveref05_Cross x y u v a b _ (.inl ⟨i2, i3, i1, rfl⟩) w
        have e0 : t = decide (min x u ≤ a ∧ a ≤ max x u ∧ min y v ≤ b ∧ b ≤ max y v ∧ (u - x) * (b - y) - (v - y) * (a - x) = 0) := by rw [h, decide_eq_decide]; exact ⟨fun e => e.2.2.2, fun e => ⟨i1, i2, i3, e⟩⟩
        generalize (u - x) * (b - y) - (v - y) * (a - x) = r at *
        clear h i1 i2 i3
        by_cases q0 : r = 0
        · have d0 := beq_t q0
          by_cases q1 : min x u ≤ a ∧ a ≤ max x u
          · have c5 := Lib.hid fun w => ref_between a x u true (by rw [decide_eq_true q1]) w
            have c6 := Lib.hid fun w => ref_between b y v t (by rw [e0, decide_eq_decide]; exact ⟨fun e => ⟨e.2.2.1, e.2.2.2.1⟩, fun e => ⟨q1.1, q1.2, e.1, e.2, q0⟩⟩) w
            clear q0 q1 e0
            go_enter Try.func25, Try.ntmps25
            go_wp2_with fail
            refine (c1.out _).mono ?_; rintro e w1 ⟨rfl, x1⟩
            obtain ⟨k1, f1⟩ := bcell x1
            obtain ⟨z1, z2⟩ := psize2 x1
            have X1 := Lib.hid (pext2 x1)
            clear x1
            go_wp2_with fail
            refine (c2.out _).mono ?_; rintro e w2 ⟨rfl, x2⟩
            obtain ⟨k2, f2⟩ := bcell x2
            have y1 := Nat.lt_of_lt_of_le z1 x2.size
            have y2 := Nat.lt_of_lt_of_le z2 x2.size
            have X2 := Lib.hid (X1.out.trans x2)
            clear x2
            go_wp2_with fail
            refine (c3.out _).mono ?_; rintro e w3 ⟨rfl, x3⟩
            obtain ⟨k3, f3⟩ := bcell x3
            have v1 := Nat.lt_of_lt_of_le y1 x3.size
            have v2 := Nat.lt_of_lt_of_le y2 x3.size
            have X3 := Lib.hid (X2.out.trans x3)
            clear x3
            go_wp2_with fail
            refine (c4.out _).mono ?_; rintro e w4 ⟨rfl, x4⟩
            obtain ⟨k4, f4⟩ := bcell x4
            have u1 := Nat.lt_of_lt_of_le v1 x4.size
            have u2 := Nat.lt_of_lt_of_le v2 x4.size
            have X4 := Lib.hid (X3.out.trans x4)
            clear x4
            go_wp2_with fail
            refine (c5.out _).mono ?_; rintro e w' ⟨rfl, rfl⟩
            go_wp2_with fail
            refine (c6.out _).mono ?_; rintro e w' ⟨rfl, rfl⟩
            go_wp2_with fail
            go_ret
            exact ⟨rfl, X4.out⟩
          · have c5 := Lib.hid fun w => ref_between a x u false (by rw [decide_eq_false q1]) w
            obtain rfl : t = false := by rw [e0]; exact decide_eq_false fun e => q1 ⟨e.1, e.2.1⟩
            clear q0 q1 e0
            go_enter Try.func25, Try.ntmps25
            go_wp2_with fail
            refine (c1.out _).mono ?_; rintro e w1 ⟨rfl, x1⟩
            obtain ⟨k1, f1⟩ := bcell x1
            obtain ⟨z1, z2⟩ := psize2 x1
            have X1 := Lib.hid (pext2 x1)
            clear x1
            go_wp2_with fail
            refine (c2.out _).mono ?_; rintro e w2 ⟨rfl, x2⟩
            obtain ⟨k2, f2⟩ := bcell x2
            have y1 := Nat.lt_of_lt_of_le z1 x2.size
            have y2 := Nat.lt_of_lt_of_le z2 x2.size
            have X2 := Lib.hid (X1.out.trans x2)
            clear x2
            go_wp2_with fail
            refine (c3.out _).mono ?_; rintro e w3 ⟨rfl, x3⟩
            obtain ⟨k3, f3⟩ := bcell x3
            have v1 := Nat.lt_of_lt_of_le y1 x3.size
            have v2 := Nat.lt_of_lt_of_le y2 x3.size
            have X3 := Lib.hid (X2.out.trans x3)
            clear x3
            go_wp2_with fail
            refine (c4.out _).mono ?_; rintro e w4 ⟨rfl, x4⟩
            obtain ⟨k4, f4⟩ := bcell x4
            have X4 := Lib.hid (X3.out.trans x4)
            clear x4
            go_wp2_with fail
            refine (c5.out _).mono ?_; rintro e w' ⟨rfl, rfl⟩
            go_wp2_with fail
            go_ret
            exact ⟨rfl, X4.out⟩
        · have d0 := beq_f q0
          obtain rfl : t = false := by rw [e0]; exact decide_eq_false fun e => q0 e.2.2.2.2
          clear q0 e0
          go_enter Try.func25, Try.ntmps25
          go_wp2_with fail
          refine (c1.out _).mono ?_; rintro e w1 ⟨rfl, x1⟩
          obtain ⟨k1, f1⟩ := bcell x1
          obtain ⟨z1, z2⟩ := psize2 x1
          have X1 := Lib.hid (pext2 x1)
          clear x1
          go_wp2_with fail
          refine (c2.out _).mono ?_; rintro e w2 ⟨rfl, x2⟩
          obtain ⟨k2, f2⟩ := bcell x2
          have y1 := Nat.lt_of_lt_of_le z1 x2.size
          have y2 := Nat.lt_of_lt_of_le z2 x2.size
          have X2 := Lib.hid (X1.out.trans x2)
          clear x2
          go_wp2_with fail
          refine (c3.out _).mono ?_; rintro e w3 ⟨rfl, x3⟩
          obtain ⟨k3, f3⟩ := bcell x3
          have v1 := Nat.lt_of_lt_of_le y1 x3.size
          have v2 := Nat.lt_of_lt_of_le y2 x3.size
          have X3 := Lib.hid (X2.out.trans x3)
          clear x3
          go_wp2_with fail
          refine (c4.out _).mono ?_; rintro e w4 ⟨rfl, x4⟩
          have X4 := Lib.hid (X3.out.trans x4)
          clear x4
          go_wp2_with fail
          go_ret
          exact ⟨rfl, X4.out⟩
      · have c3 := Lib.hid fun w => additiveref05_Valid u v false (by rw [decide_eq_false i3]) w
        obtain rfl : t = false := by rw [h]; exact decide_eq_false fun e => i3 e.2.2.1
        clear h i1 i2 i3
        go_enter Try.func25, Try.ntmps25
        go_wp2_with fail
        refine (c1.out _).mono ?_; rintro e w1 ⟨rfl, x1⟩
        obtain ⟨k1, f1⟩ := bcell x1
        obtain ⟨z1, z2⟩ := psize2 x1
        have X1 := Lib.hid (pext2 x1)
        clear x1
        go_wp2_with fail
        refine (c2.out _).mono ?_; rintro e w2 ⟨rfl, x2⟩
        obtain ⟨k2, f2⟩ := bcell x2
        have X2 := Lib.hid (X1.out.trans x2)
        clear x2
        go_wp2_with fail
        refine (c3.out _).mono ?_; rintro e w3 ⟨rfl, x3⟩
        have X3 := Lib.hid (X2.out.trans x3)
        clear x3
        go_wp2_with fail
        go_ret
        exact ⟨rfl, X3.out⟩
    · have c2 := Lib.hid fun w => additiveref05_Valid x y false (by rw [decide_eq_false i2]) w
      obtain rfl : t = false := by rw [h]; exact decide_eq_false fun e => i2 e.2.1
      clear h i1 i2
      go_enter Try.func25, Try.ntmps25
      go_wp2_with fail
      refine (c1.out _).mono ?_; rintro e w1 ⟨rfl, x1⟩
      obtain ⟨k1, f1⟩ := bcell x1
      obtain ⟨z1, z2⟩ := psize2 x1
      have X1 := Lib.hid (pext2 x1)
      clear x1
      go_wp2_with fail
      refine (c2.out _).mono ?_; rintro e w2 ⟨rfl, x2⟩
      have X2 := Lib.hid (X1.out.trans x2)
      clear x2
      go_wp2_with fail
      go_ret
      exact ⟨rfl, X2.out⟩
  · have c1 := Lib.hid fun w => additiveref05_Valid a b false (by rw [decide_eq_false i1]) w
    obtain rfl : t = false := by rw [h]; exact decide_eq_false fun e => i1 e.1
    clear h i1
    go_enter Try.func25, Try.ntmps25
    go_wp2_with fail
    refine (c1.out _).mono ?_; rintro e w1 ⟨rfl, x1⟩
    have X1 := Lib.hid (pext2 x1)
    clear x1
    go_wp2_with fail
    go_ret
    exact ⟨rfl, X1.out⟩
end Go.Proofs.Ytlogipcffncdcaa

