/-
  Contracts of package planar and of the document's own answers: On.
-/
import Derived.Test.YtlogipcffncdcaaPlC
namespace Go.Proofs.Ytlogipcffncdcaa
open Go.RowKit
/-- t is what On answers. -/
def POn (x y u v a b : Int) (t : Bool) : Prop := t = decide (In2 16777216 a b ∧ In2 16777216 x y ∧ In2 16777216 u v ∧ min x u ≤ a ∧ a ≤ max x u ∧ min y v ≤ b ∧ b ≤ max y v ∧ (u - x) * (b - y) - (v - y) * (a - x) = 0)
set_option maxHeartbeats 2000000 in
theorem planar_On (x y u v a b : Int) (t : Bool) (h : POn x y u v a b t) (w : World) :
    Calls Try.prog 24 #[.agg #[.int .i64 a, .int .i64 b], .agg #[.int .i64 x, .int .i64 y, .int .i64 u, .int .i64 v]] w fun e w' => e = .returned (.bool t) ∧ Ext w w' := by
  unfold POn at h
  by_cases i1 : In2 16777216 a b
  · have c1 := Lib.hid fun w => planar_Valid a b true (by rw [decide_eq_true i1]) w
    by_cases i2 : In2 16777216 x y
    · have c2 := Lib.hid fun w => planar_Valid x y true (by rw [decide_eq_true i2]) w
      by_cases i3 : In2 16777216 u v
      · have c3 := Lib.hid fun w => planar_Valid u v true (by rw [decide_eq_true i3]) w
        have c4 := Lib.hid fun w => seg_holds x y u v a b _ t (by rw [h, decide_eq_decide]; exact ⟨fun e => e.2.2.2, fun e => ⟨i1, i2, i3, e⟩⟩) (.inl ⟨i2, i3, i1, rfl⟩) w
        clear h i1 i2 i3
        go_enter Try.func24, Try.ntmps24
        go_wp2_with fail
        refine (c1.out _).mono ?_; rintro e w1 ⟨rfl, x1⟩
        obtain ⟨k1, f1⟩ := bcell x1
        obtain ⟨z1, z2⟩ := psize2 x1
        have X1 := Lib.hid (pext2 x1)
        clear x1
        go_wp2_with fail
        refine (c2.out _).mono ?_; rintro e w2 ⟨rfl, x2⟩
        obtain ⟨k2, f2⟩ := bcell x2
        have y1 := Nat.lt_of_lt_of_le z1 x2.size
        have y2 := Nat.lt_of_lt_of_le z2 x2.size
        have X2 := Lib.hid (X1.out.trans x2)
        clear x2
        go_wp2_with fail
        refine (c3.out _).mono ?_; rintro e w3 ⟨rfl, x3⟩
        obtain ⟨k3, f3⟩ := bcell x3
        have X3 := Lib.hid (X2.out.trans x3)
        clear x3
        go_wp2_with fail
        refine (c4.out _).mono ?_; rintro e w4 ⟨rfl, x4⟩
        have X4 := Lib.hid (X3.out.trans x4)
        clear x4
        go_wp2_with fail
        go_ret
        exact ⟨rfl, X4.out⟩
      · have c3 := Lib.hid fun w => planar_Valid u v false (by rw [decide_eq_false i3]) w
        obtain rfl : t = false := by rw [h]; exact decide_eq_false fun e => i3 e.2.2.1
        clear h i1 i2 i3
        go_enter Try.func24, Try.ntmps24
        go_wp2_with fail
        refine (c1.out _).mono ?_; rintro e w1 ⟨rfl, x1⟩
        obtain ⟨k1, f1⟩ := bcell x1
        obtain ⟨z1, z2⟩ := psize2 x1
        have X1 := Lib.hid (pext2 x1)
        clear x1
        go_wp2_with fail
        refine (c2.out _).mono ?_; rintro e w2 ⟨rfl, x2⟩
        obtain ⟨k2, f2⟩ := bcell x2
        have X2 := Lib.hid (X1.out.trans x2)
        clear x2
        go_wp2_with fail
        refine (c3.out _).mono ?_; rintro e w3 ⟨rfl, x3⟩
        have X3 := Lib.hid (X2.out.trans x3)
        clear x3
        go_wp2_with fail
        go_ret
        exact ⟨rfl, X3.out⟩
    · have c2 := Lib.hid fun w => planar_Valid x y false (by rw [decide_eq_false i2]) w
      obtain rfl : t = false := by rw [h]; exact decide_eq_false fun e => i2 e.2.1
      clear h i1 i2
      go_enter Try.func24, Try.ntmps24
      go_wp2_with fail
      refine (c1.out _).mono ?_; rintro e w1 ⟨rfl, x1⟩
      obtain ⟨k1, f1⟩ := bcell x1
      obtain ⟨z1, z2⟩ := psize2 x1
      have X1 := Lib.hid (pext2 x1)
      clear x1
      go_wp2_with fail
      refine (c2.out _).mono ?_; rintro e w2 ⟨rfl, x2⟩
      have X2 := Lib.hid (X1.out.trans x2)
      clear x2
      go_wp2_with fail
      go_ret
      exact ⟨rfl, X2.out⟩
  · have c1 := Lib.hid fun w => planar_Valid a b false (by rw [decide_eq_false i1]) w
    obtain rfl : t = false := by rw [h]; exact decide_eq_false fun e => i1 e.1
    clear h i1
    go_enter Try.func24, Try.ntmps24
    go_wp2_with fail
    refine (c1.out _).mono ?_; rintro e w1 ⟨rfl, x1⟩
    have X1 := Lib.hid (pext2 x1)
    clear x1
    go_wp2_with fail
    go_ret
    exact ⟨rfl, X1.out⟩
end Go.Proofs.Ytlogipcffncdcaa

