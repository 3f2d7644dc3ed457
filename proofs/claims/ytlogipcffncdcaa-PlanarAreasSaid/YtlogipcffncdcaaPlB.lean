/-
  Contracts of package planar and of the document's own answers: turns, points of segments.
-/
import Derived.Test.YtlogipcffncdcaaPlA
import Derived.Lib.MinMax
namespace Go.Proofs.Ytlogipcffncdcaa
open Go.RowKit
theorem cmp_isNaN (x : Int) (w : World) : Calls Try.prog 51 #[.int .i64 x] w fun e w' => e = .returned (.bool false) ∧ w = w' := by
  have d := bne_f (rfl : x = x)
  go_enter Try.func51, Try.ntmps51
  go_wp2_with fail
  go_ret
  exact ⟨rfl, rfl⟩
theorem cmp_Compare (x y r : Int) (h : r = sgn (x - y)) (w : World) : Calls Try.prog 35 #[.int .i64 x, .int .i64 y] w fun e w' => e = .returned (.int .i64 r) ∧ w = w' := by
  have c1 := Lib.hid fun w => cmp_isNaN x w
  have c2 := Lib.hid fun w => cmp_isNaN y w
  rcases Int.lt_trichotomy x y with h1 | h1 | h1
  · obtain rfl : r = -1 := by rw [h]; unfold sgn; rw [if_neg (by omega), if_pos (by omega)]
    have d := dlt_t h1
    clear h h1
    go_enter Try.func35, Try.ntmps35
    go_wp2_with fail
    refine (c1.out _).mono ?_; rintro e w' ⟨rfl, rfl⟩
    go_wp2_with fail
    refine (c2.out _).mono ?_; rintro e w' ⟨rfl, rfl⟩
    go_wp2_with fail
    go_ret
    exact ⟨rfl, rfl⟩
  · obtain rfl : r = 0 := by rw [h]; unfold sgn; rw [if_neg (by omega), if_neg (by omega)]
    have d := dlt_f (Int.le_of_eq h1.symm)
    have d2 := dlt_f (Int.le_of_eq h1)
    clear h h1
    go_enter Try.func35, Try.ntmps35
    go_wp2_with fail
    refine (c1.out _).mono ?_; rintro e w' ⟨rfl, rfl⟩
    go_wp2_with fail
    refine (c2.out _).mono ?_; rintro e w' ⟨rfl, rfl⟩
    go_wp2_with fail
    go_ret
    exact ⟨rfl, rfl⟩
  · obtain rfl : r = 1 := by rw [h]; unfold sgn; rw [if_pos (by omega)]
    have d := dlt_f (Int.le_of_lt h1)
    have d2 := dlt_t h1
    clear h h1
    go_enter Try.func35, Try.ntmps35
    go_wp2_with fail
    refine (c1.out _).mono ?_; rintro e w' ⟨rfl, rfl⟩
    go_wp2_with fail
    refine (c2.out _).mono ?_; rintro e w' ⟨rfl, rfl⟩
    go_wp2_with fail
    go_ret
    exact ⟨rfl, rfl⟩
theorem planar_Turn (x y u v a b r : Int) (h : PCross x y u v a b r) (w : World) :
    Calls Try.prog 19 #[.agg #[.int .i64 x, .int .i64 y], .agg #[.int .i64 u, .int .i64 v], .agg #[.int .i64 a, .int .i64 b]] w fun e w' => e = .returned (.int .i64 (sgn r)) ∧ Ext w w' := by
  have c1 := Lib.hid fun w => planar_Cross x y u v a b r h w
  have c2 := Lib.hid fun w => cmp_Compare r 0 (sgn r) (by rw [Int.sub_zero]) w
  clear h
  go_enter Try.func19, Try.ntmps19
  go_wp2_with fail
  refine (c1.out _).mono ?_; rintro e w1 ⟨rfl, x1⟩
  have X1 := Lib.hid (pext3 x1)
  clear x1
  go_wp2_with fail
  refine (c2.out _).mono ?_; rintro e w' ⟨rfl, rfl⟩
  go_wp2_with fail
  go_ret
  exact ⟨rfl, X1.out⟩
theorem additiveref05_Turn (x y u v a b r : Int) (h : PCross x y u v a b r) (w : World) :
    Calls Try.prog 20 #[.agg #[.int .i64 x, .int .i64 y], .agg #[.int .i64 u, .int .i64 v], .agg #[.int .i64 a, .int .i64 b]] w fun e w' => e = .returned (.int .i64 (sgn r)) ∧ Ext w w' := by
  have c1 := Lib.hid fun w => additiveref05_Cross x y u v a b r h w
  clear h
  rcases Int.lt_trichotomy r 0 with h1 | h1 | h1
  · have e : Hid (sgn r = -1) := Lib.hid (by unfold sgn; rw [if_neg (by omega), if_pos (by omega)])
    have d := dlt_f (Int.le_of_lt h1)
    have d2 := dlt_t h1
    clear h1
    go_enter Try.func20, Try.ntmps20
    go_wp2_with fail
    refine (c1.out _).mono ?_; rintro e w1 ⟨rfl, x1⟩
    have X1 := Lib.hid (pext3 x1)
    clear x1
    go_wp2_with fail
    go_ret
    exact ⟨by rw [e.out]; rfl, X1.out⟩
  · subst h1
    go_enter Try.func20, Try.ntmps20
    go_wp2_with fail
    refine (c1.out _).mono ?_; rintro e w1 ⟨rfl, x1⟩
    have X1 := Lib.hid (pext3 x1)
    clear x1
    go_wp2_with fail
    go_ret
    exact ⟨rfl, X1.out⟩
  · have e : Hid (sgn r = 1) := Lib.hid (by unfold sgn; rw [if_pos (by omega)])
    have d := dlt_t h1
    clear h1
    go_enter Try.func20, Try.ntmps20
    go_wp2_with fail
    refine (c1.out _).mono ?_; rintro e w1 ⟨rfl, x1⟩
    have X1 := Lib.hid (pext3 x1)
    clear x1
    go_wp2_with fail
    go_ret
    exact ⟨by rw [e.out]; rfl, X1.out⟩
end Go.Proofs.Ytlogipcffncdcaa

