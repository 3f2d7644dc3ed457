/-
  Contracts of package planar and of the document's own answers: points of segments.
-/
import Derived.Test.YtlogipcffncdcaaPlB
namespace Go.Proofs.Ytlogipcffncdcaa
open Go.RowKit
theorem sgn_zero (r : Int) : (sgn r == 0) = decide (r = 0) := by
  unfold sgn
  by_cases h : r = 0
  · subst h; rfl
  · by_cases h1 : 0 < r
    · simp [h1, h]
    · have h2 : r < 0 := by omega
      simp [h1, h2, h]
theorem seg_side (x y u v a b r : Int) (h : PCross x y u v a b r) (w : World) :
    Calls Try.prog 39 #[.agg #[.int .i64 x, .int .i64 y, .int .i64 u, .int .i64 v], .agg #[.int .i64 a, .int .i64 b]] w fun e w' => e = .returned (.int .i64 (sgn r)) ∧ Ext w w' := by
  have c1 := Lib.hid fun w => planar_Turn x y u v a b r h w
  clear h
  go_enter Try.func39, Try.ntmps39
  go_wp2_with fail
  refine (c1.out _).mono ?_; rintro e w1 ⟨rfl, x1⟩
  have X1 := Lib.hid (pext2 x1)
  clear x1
  go_wp2_with fail
  go_ret
  exact ⟨rfl, X1.out⟩
set_option maxHeartbeats 4000000 in
theorem seg_holds (x y u v a b r : Int) (t : Bool) (ht : t = decide (min x u ≤ a ∧ a ≤ max x u ∧ min y v ≤ b ∧ b ≤ max y v ∧ r = 0)) (h : PCross x y u v a b r) (w : World) :
    Calls Try.prog 36 #[.agg #[.int .i64 x, .int .i64 y, .int .i64 u, .int .i64 v], .agg #[.int .i64 a, .int .i64 b]] w fun e w' => e = .returned (.bool t) ∧ Ext w w' := by
  have c1 := Lib.hid fun w => seg_side x y u v a b r h w
  have HT := Lib.hid ht
  clear h ht
  have e0 := sgn_zero r
  by_cases q1 : min x u ≤ a <;> by_cases q2 : a ≤ max x u <;> by_cases q3 : min y v ≤ b <;> by_cases q4 : b ≤ max y v
  all_goals
    first | have d1 := decide_eq_true q1 | have d1 := decide_eq_false q1
    first | have d2 := decide_eq_true q2 | have d2 := decide_eq_false q2
    first | have d3 := decide_eq_true q3 | have d3 := decide_eq_false q3
    first | have d4 := decide_eq_true q4 | have d4 := decide_eq_false q4
    have Q1 := Lib.hid q1; have Q2 := Lib.hid q2; have Q3 := Lib.hid q3; have Q4 := Lib.hid q4
    clear q1 q2 q3 q4
  · have E0 := Lib.hid e0
    clear e0
    go_enter Try.func36, Try.ntmps36
    go_wp2_with fail
    refine (c1.out _).mono ?_; rintro e w1 ⟨rfl, x1⟩
    have X1 := Lib.hid (pext2 x1)
    clear x1
    go_wp2_with fail
    go_ret
    refine ⟨ret_b (Eq.symm ?_), X1.out⟩
    rw [HT.out, E0.out, decide_eq_decide]
    exact ⟨fun e => e.2.2.2.2, fun e => ⟨Q1.out, Q2.out, Q3.out, Q4.out, e⟩⟩
  all_goals
    clear e0 c1
    go_enter Try.func36, Try.ntmps36
    go_wp2_with fail
    go_ret
    refine ⟨ret_b (Eq.symm ?_), ((Ext.refl _).alloc _).alloc _⟩
    rw [HT.out]
    exact decide_eq_false fun e => by have := Q1.out; have := Q2.out; have := Q3.out; have := Q4.out; omega
end Go.Proofs.Ytlogipcffncdcaa

