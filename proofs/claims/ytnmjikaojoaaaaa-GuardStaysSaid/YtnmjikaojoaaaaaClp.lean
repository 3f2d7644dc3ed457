/-
  Contracts of num.Clamp alone.
-/
import Derived.Test.YtnmjikaojoaaaaaChecked
import Derived.Test.YtnmjikaojoaaaaaVecM
import Derived.WalkKit
import Derived.WalkLawsBesides
import Derived.ProofKit
import Derived.Lib.Hide
import Derived.Deep.QuietTactic
import Derived.BigQuiet
namespace Go.Proofs.Ytnmjikaojoaaaaa
open Go.RowKit
/-- additive/num.Clamp -/
theorem num_Clamp (n lo hi : Int) (w : World) :
    Calls Try.prog 52 #[.int .i64 n, .int .i64 lo, .int .i64 hi] w fun e w' => e = .returned (.int .i64 (max lo (min n hi))) ∧ w = w' := by
  go_enter Try.func52, Try.ntmps52
  go_wp2
  all_goals
    go_ret
    exact ⟨ret1 (by omega), rfl⟩
end Go.Proofs.Ytnmjikaojoaaaaa
