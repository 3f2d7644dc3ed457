/-
  Contracts of package num's functions without loops, and of the document's answers to them: each returns its exact result, and leaves memory as it was.
-/
import Derived.Test.YtflalomgifeaaaaDoorChecked
import Derived.Test.YtflalomgifeaaaaDoorArith
import Derived.WalkKit
import Derived.WalkLawsBesides
import Derived.ProofKit
import Derived.Lib.Hide
import Derived.Deep.QuietTactic
import Derived.BigQuiet
namespace Go.Proofs.YtflalomgifeaaaaDoor
open Go.RowKit

/-- additive/num.Add: the exact result, or ErrOverflow; the world is as it was. -/
theorem num_Add (a b : Int) (a0 : -9223372036854775808 ≤ a) (a1 : a ≤ 9223372036854775807) (b0 : -9223372036854775808 ≤ b) (b1 : b ≤ 9223372036854775807) (w : World) :
    Calls Tryd.prog 10 #[.int .i64 a, .int .i64 b] w fun e w' => e = Res (fit (a + b)) ∧ w = w' := by
  by_cases h1 : 9223372036854775807 < a + b
  · have hs := wrap_hi h1 (by omega)
    have ds := dlt_t hs
    rcases sign_cases a with ⟨ha, da⟩ | ⟨ha, da⟩ <;> rcases sign_cases b with ⟨hb, db⟩ | ⟨hb, db⟩ <;> first | (exfalso; omega) | skip
    go_enter Tryd.func10, Tryd.ntmps10
    go_wp2
    go_ret2
    exact ⟨res_of (fit_out (.inr h1)), rfl⟩
  by_cases h2 : a + b < -9223372036854775808
  · have hs := wrap_lo h2 (by omega)
    have ds := dlt_f hs
    rcases sign_cases a with ⟨ha, da⟩ | ⟨ha, da⟩ <;> rcases sign_cases b with ⟨hb, db⟩ | ⟨hb, db⟩ <;> first | (exfalso; omega) | skip
    go_enter Tryd.func10, Tryd.ntmps10
    go_wp2
    go_ret2
    exact ⟨res_of (fit_out (.inl h2)), rfl⟩
  rcases sign_cases a with ⟨ha, da⟩ | ⟨ha, da⟩ <;> rcases sign_cases b with ⟨hb, db⟩ | ⟨hb, db⟩ <;> rcases sign_cases (a + b) with ⟨hs, ds⟩ | ⟨hs, ds⟩ <;> first | (exfalso; omega) | skip
  all_goals
    go_enter Tryd.func10, Tryd.ntmps10
    go_wp2
    go_ret2
    exact ⟨res_of (fit_in (by omega) (by omega)), rfl⟩

/-- additive/num.Sub: the exact result, or ErrOverflow; the world is as it was. -/
theorem num_Sub (a b : Int) (a0 : -9223372036854775808 ≤ a) (a1 : a ≤ 9223372036854775807) (b0 : -9223372036854775808 ≤ b) (b1 : b ≤ 9223372036854775807) (w : World) :
    Calls Tryd.prog 12 #[.int .i64 a, .int .i64 b] w fun e w' => e = Res (fit (a - b)) ∧ w = w' := by
  by_cases h1 : 9223372036854775807 < a - b
  · have hs := wrap_hi h1 (by omega)
    have ds := dlt_t hs
    rcases sign_cases a with ⟨ha, da⟩ | ⟨ha, da⟩ <;> rcases sign_cases b with ⟨hb, db⟩ | ⟨hb, db⟩ <;> first | (exfalso; omega) | skip
    go_enter Tryd.func12, Tryd.ntmps12
    go_wp2
    go_ret2
    exact ⟨res_of (fit_out (.inr h1)), rfl⟩
  by_cases h2 : a - b < -9223372036854775808
  · have hs := wrap_lo h2 (by omega)
    have ds := dlt_f hs
    rcases sign_cases a with ⟨ha, da⟩ | ⟨ha, da⟩ <;> rcases sign_cases b with ⟨hb, db⟩ | ⟨hb, db⟩ <;> first | (exfalso; omega) | skip
    go_enter Tryd.func12, Tryd.ntmps12
    go_wp2
    go_ret2
    exact ⟨res_of (fit_out (.inl h2)), rfl⟩
  rcases sign_cases a with ⟨ha, da⟩ | ⟨ha, da⟩ <;> rcases sign_cases b with ⟨hb, db⟩ | ⟨hb, db⟩ <;> rcases sign_cases (a - b) with ⟨hs, ds⟩ | ⟨hs, ds⟩ <;> first | (exfalso; omega) | skip
  all_goals
    go_enter Tryd.func12, Tryd.ntmps12
    go_wp2
    go_ret2
    exact ⟨res_of (fit_in (by omega) (by omega)), rfl⟩

theorem ref_Add (a b : Int) (a0 : -9223372036854775808 ≤ a) (a1 : a ≤ 9223372036854775807) (b0 : -9223372036854775808 ≤ b) (b1 : b ≤ 9223372036854775807) (w : World) :
    Calls Tryd.prog 11 #[.int .i64 a, .int .i64 b] w fun e w' => e = Res (fit (a + b)) ∧ w = w' := by
  by_cases h1 : 9223372036854775807 < a + b
  · have hs := wrap_hi_lt h1 (by omega) (a := a) (by omega)
    have ds := dlt_t hs
    have hb : 0 < b := by omega
    have db := dlt_t hb
    have db' : decide (b < 0) = false := dlt_f (by omega)
    go_enter Tryd.func11, Tryd.ntmps11
    go_wp2
    go_ret2
    exact ⟨res_of (fit_out (.inr h1)), rfl⟩
  by_cases h2 : a + b < -9223372036854775808
  · have hs := wrap_lo_gt h2 (by omega) (a := a) (by omega)
    have ds := dlt_t hs
    have hb : b < 0 := by omega
    have db := dlt_t hb
    have db' : decide (0 < b) = false := dlt_f (by omega)
    go_enter Tryd.func11, Tryd.ntmps11
    go_wp2
    go_ret2
    exact ⟨res_of (fit_out (.inl h2)), rfl⟩
  rcases (show b < 0 ∨ b = 0 ∨ 0 < b by omega) with hb | hb | hb
  · have db := dlt_t hb
    have db' : decide (0 < b) = false := dlt_f (by omega)
    have dl : decide (a + b < a) = true := dlt_t (by omega)
    have dg : decide (a < a + b) = false := dlt_f (by omega)
    go_enter Tryd.func11, Tryd.ntmps11
    go_wp2
    go_ret2
    exact ⟨res_of (fit_in (by omega) (by omega)), rfl⟩
  · subst hb
    go_enter Tryd.func11, Tryd.ntmps11
    go_wp2
    go_ret2
    exact ⟨res_of (fit_in (by omega) (by omega)), rfl⟩
  · have db := dlt_t hb
    have db' : decide (b < 0) = false := dlt_f (by omega)
    have dl : decide (a + b < a) = false := dlt_f (by omega)
    have dg : decide (a < a + b) = true := dlt_t (by omega)
    go_enter Tryd.func11, Tryd.ntmps11
    go_wp2
    go_ret2
    exact ⟨res_of (fit_in (by omega) (by omega)), rfl⟩

theorem ref_Sub (a b : Int) (a0 : -9223372036854775808 ≤ a) (a1 : a ≤ 9223372036854775807) (b0 : -9223372036854775808 ≤ b) (b1 : b ≤ 9223372036854775807) (w : World) :
    Calls Tryd.prog 13 #[.int .i64 a, .int .i64 b] w fun e w' => e = Res (fit (a - b)) ∧ w = w' := by
  by_cases h1 : 9223372036854775807 < a - b
  · have hs := wrap_hi_lt h1 (by omega) (a := a) (by omega)
    have ds := dlt_t hs
    have hb : b < 0 := by omega
    have db := dlt_t hb
    have db' : decide (0 < b) = false := dlt_f (by omega)
    go_enter Tryd.func13, Tryd.ntmps13
    go_wp2
    go_ret2
    exact ⟨res_of (fit_out (.inr h1)), rfl⟩
  by_cases h2 : a - b < -9223372036854775808
  · have hs := wrap_lo_gt h2 (by omega) (a := a) (by omega)
    have ds := dlt_t hs
    have hb : 0 < b := by omega
    have db := dlt_t hb
    have db' : decide (b < 0) = false := dlt_f (by omega)
    go_enter Tryd.func13, Tryd.ntmps13
    go_wp2
    go_ret2
    exact ⟨res_of (fit_out (.inl h2)), rfl⟩
  rcases (show b < 0 ∨ b = 0 ∨ 0 < b by omega) with hb | hb | hb
  · have db := dlt_t hb
    have db' : decide (0 < b) = false := dlt_f (by omega)
    have dl : decide (a - b < a) = false := dlt_f (by omega)
    have dg : decide (a < a - b) = true := dlt_t (by omega)
    go_enter Tryd.func13, Tryd.ntmps13
    go_wp2
    go_ret2
    exact ⟨res_of (fit_in (by omega) (by omega)), rfl⟩
  · subst hb
    go_enter Tryd.func13, Tryd.ntmps13
    go_wp2
    go_ret2
    exact ⟨res_of (fit_in (by omega) (by omega)), rfl⟩
  · have db := dlt_t hb
    have db' : decide (b < 0) = false := dlt_f (by omega)
    have dl : decide (a - b < a) = true := dlt_t (by omega)
    have dg : decide (a < a - b) = false := dlt_f (by omega)
    go_enter Tryd.func13, Tryd.ntmps13
    go_wp2
    go_ret2
    exact ⟨res_of (fit_in (by omega) (by omega)), rfl⟩

/-- additive/num.magnitude: the size of a number, as a uint64. -/
theorem num_magnitude (n : Int) (h0 : -9223372036854775808 ≤ n) (h1 : n ≤ 9223372036854775807) (w : World) :
    Calls Tryd.prog 36 #[.int .i64 n] w fun e w' => e = .returned (.int .u64 (n.natAbs : Int)) ∧ w = w' := by
  by_cases h : n < 0
  · have e : IntKind.u64.wrap (-IntKind.u64.wrap n) = (n.natAbs : Int) := by simp only [Go.IntKind.wrap_u64]; omega
    go_enter Tryd.func36, Tryd.ntmps36
    go_wp2
    go_ret
    exact ⟨ret1 (by first | exact e | rfl), rfl⟩
  · have h' : 0 ≤ n := by omega
    go_enter Tryd.func36, Tryd.ntmps36
    go_wp2
    go_ret
    exact ⟨ret1 (show n = (n.natAbs : Int) by omega), rfl⟩

/-- additive/additiveref01.size: the size of a number, as a uint64. -/
theorem ref_size (n : Int) (h0 : -9223372036854775808 ≤ n) (h1 : n ≤ 9223372036854775807) (w : World) :
    Calls Tryd.prog 34 #[.int .i64 n] w fun e w' => e = .returned (.int .u64 (n.natAbs : Int)) ∧ w = w' := by
  by_cases h : n < 0
  · have e : IntKind.u64.wrap (-IntKind.u64.wrap n) = (n.natAbs : Int) := by simp only [Go.IntKind.wrap_u64]; omega
    go_enter Tryd.func34, Tryd.ntmps34
    go_wp2
    go_ret
    exact ⟨ret1 (by first | exact e | rfl), rfl⟩
  · have h' : 0 ≤ n := by omega
    go_enter Tryd.func34, Tryd.ntmps34
    go_wp2
    go_ret
    exact ⟨ret1 (show n = (n.natAbs : Int) by omega), rfl⟩

/-- additive/additivelaw01.size: the size of a number, as a uint64. -/
theorem law_size (n : Int) (h0 : -9223372036854775808 ≤ n) (h1 : n ≤ 9223372036854775807) (w : World) :
    Calls Tryd.prog 24 #[.int .i64 n] w fun e w' => e = .returned (.int .u64 (n.natAbs : Int)) ∧ w = w' := by
  by_cases h : n < 0
  · have e : IntKind.u64.wrap (-IntKind.u64.wrap n) = (n.natAbs : Int) := by simp only [Go.IntKind.wrap_u64]; omega
    go_enter Tryd.func24, Tryd.ntmps24
    go_wp2
    go_ret
    exact ⟨ret1 (by first | exact e | rfl), rfl⟩
  · have h' : 0 ≤ n := by omega
    go_enter Tryd.func24, Tryd.ntmps24
    go_wp2
    go_ret
    exact ⟨ret1 (show n = (n.natAbs : Int) by omega), rfl⟩

/-- additive/num.Clamp -/
theorem num_Clamp (n lo hi : Int) (w : World) :
    Calls Tryd.prog 31 #[.int .i64 n, .int .i64 lo, .int .i64 hi] w fun e w' => e = .returned (.int .i64 (max lo (min n hi))) ∧ w = w' := by
  go_enter Tryd.func31, Tryd.ntmps31
  go_wp2
  all_goals
    go_ret
    exact ⟨ret1 (by omega), rfl⟩
theorem ref_Clamp (n lo hi : Int) (w : World) :
    Calls Tryd.prog 32 #[.int .i64 n, .int .i64 lo, .int .i64 hi] w fun e w' => e = .returned (.int .i64 (max lo (min n hi))) ∧ w = w' := by
  go_enter Tryd.func32, Tryd.ntmps32
  go_wp2
  all_goals
    go_ret
    exact ⟨ret1 (by omega), rfl⟩
end Go.Proofs.YtflalomgifeaaaaDoor
