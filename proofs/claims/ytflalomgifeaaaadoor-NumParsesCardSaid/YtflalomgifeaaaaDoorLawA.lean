/-
  The walks of the laws of package num: each answers true, in every world in which the library's table lies as its text lays it.
-/
import Derived.Test.YtflalomgifeaaaaDoorAwake
import Derived.LaidLaws
import Derived.LaidHandle
import Derived.Stop.LaidErr
import Derived.LaidByTextLater
namespace Go.Proofs.YtflalomgifeaaaaDoor
open Go.RowKit
theorem i64_range {n : Int} (h : (Lit.int .i64 n).wf = true) : -9223372036854775808 ≤ n ∧ n ≤ 9223372036854775807 := by
  have h1 : IntKind.i64.min = -9223372036854775808 := by decide
  have h2 : IntKind.i64.max = 9223372036854775807 := by decide
  replace h : (decide (IntKind.i64.min ≤ n) && decide (n ≤ IntKind.i64.max)) = true := h
  rw [h1, h2, Bool.and_eq_true, decide_eq_true_iff, decide_eq_true_iff] at h
  exact h
/-- The table out of a row's condition. -/
theorem tab_of_laid {x y : String × DataW Unit} {W : World} (h : laidMet Tryd.prog (x :: y :: ("internal/strconv.uint64pow10", Lib.tabData .u64 Lib.pow10Tab) :: []) W) : Tab W :=
  Lib.tabIs_of_head (g := 2) (t := 61) (e := 29) (n := 20) (by kernel_rfl) (by kernel_rfl) (by kernel_rfl) (by kernel_rfl) (by kernel_rfl) (by kernel_rfl) h.tail.tail
theorem law_NumClamps (n : Int) (_ : -9223372036854775808 ≤ n) (_ : n ≤ 9223372036854775807) (lo : Int) (_ : -9223372036854775808 ≤ lo) (_ : lo ≤ 9223372036854775807) (hi : Int) (_ : -9223372036854775808 ≤ hi) (_ : hi ≤ 9223372036854775807) (w : World) (ht : Tab w) :
    Calls Tryd.prog 9 #[.int .i64 n, .int .i64 lo, .int .i64 hi] w fun e w' => e = .returned (.bool true) ∧ Ext w w' := by
  have c1 := num_Clamp n lo hi w
  have c2 := ref_Clamp n lo hi w
  have k := Lib.hid (law_awake w ht)
  rcases (show (lo ≤ hi ∧ n < lo ∧ max lo (min n hi) = lo) ∨ (lo ≤ hi ∧ hi < n ∧ max lo (min n hi) = hi) ∨ (lo ≤ n ∧ n ≤ hi ∧ max lo (min n hi) = n) ∨ (hi < lo ∧ max lo (min n hi) = lo) by omega) with ⟨h1, h2, h3⟩ | ⟨h1, h2, h3⟩ | ⟨h1, h2, h3⟩ | ⟨h1, h3⟩
  all_goals
    rw [h3] at c1 c2
    have C1 := Lib.hid c1; have C2 := Lib.hid c2
    clear c1 c2 h3
  · have d1 := dle_t h1
    have d2 := dlt_t h2
    have d3 : decide (hi < lo) = false := dlt_f h1
    go_enter Tryd.func9, Tryd.ntmps9
    go_wp2_with fail
    refine C1.out.mono ?_; rintro e w' ⟨rfl, rfl⟩
    go_wp2_with fail
    refine C2.out.mono ?_; rintro e w' ⟨rfl, rfl⟩
    go_wp2_with fail
    refine k.out.mono ?_; rintro e w1 ⟨rfl, hx⟩
    go_wp2_with fail
    go_ret
    exact ⟨rfl, hx⟩
  · have d1 := dle_t h1
    have d2 := dlt_t h2
    have d3 : decide (hi < lo) = false := dlt_f h1
    have d4 : decide (n < lo) = false := dlt_f (by omega)
    go_enter Tryd.func9, Tryd.ntmps9
    go_wp2_with fail
    refine C1.out.mono ?_; rintro e w' ⟨rfl, rfl⟩
    go_wp2_with fail
    refine C2.out.mono ?_; rintro e w' ⟨rfl, rfl⟩
    go_wp2_with fail
    refine k.out.mono ?_; rintro e w1 ⟨rfl, hx⟩
    go_wp2_with fail
    go_ret
    exact ⟨rfl, hx⟩
  · have d1 : decide (n < lo) = false := dlt_f h1
    have d2 : decide (hi < n) = false := dlt_f h2
    have d3 : decide (lo ≤ hi) = true := dle_t (by omega)
    go_enter Tryd.func9, Tryd.ntmps9
    go_wp2_with fail
    refine C1.out.mono ?_; rintro e w' ⟨rfl, rfl⟩
    go_wp2_with fail
    refine C2.out.mono ?_; rintro e w' ⟨rfl, rfl⟩
    go_wp2_with fail
    refine k.out.mono ?_; rintro e w1 ⟨rfl, hx⟩
    go_wp2_with fail
    go_ret
    exact ⟨rfl, hx⟩
  · have d1 : decide (lo ≤ hi) = false := dle_f h1
    rcases (show n < lo ∨ hi < n by omega) with h2 | h2
    all_goals
      have d2 := dlt_t h2
      go_enter Tryd.func9, Tryd.ntmps9
      go_wp2_with fail
      refine C1.out.mono ?_; rintro e w' ⟨rfl, rfl⟩
      go_wp2_with fail
      refine C2.out.mono ?_; rintro e w' ⟨rfl, rfl⟩
      go_wp2_with fail
      all_goals
        refine k.out.mono ?_; rintro e w1 ⟨rfl, hx⟩
        go_wp2_with fail
        go_ret
        exact ⟨rfl, hx⟩
end Go.Proofs.YtflalomgifeaaaaDoor
