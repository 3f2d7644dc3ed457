/-
  Plain arithmetic for the contracts of package num: the range of an int, floors of quotients, and when a sum wraps. No program is named here.
-/
import Derived.WalkKit
namespace Go.Proofs.Ytdoodmapmhibhaa
open Go.RowKit
/-- A number with OK if it is an int, else 0 with ErrOverflow. -/
def fit (x : Int) : Int × Int := if -9223372036854775808 ≤ x ∧ x ≤ 9223372036854775807 then (x, 0) else (0, 3)
/-- The floor of a / b. -/
def fl (a b : Int) : Int := if 0 < b then a / b else (-a) / (-b)
/-- What Floor and MulDiv answer for the exact numerator n. -/
def quo (n c : Int) : Int × Int := if c = 0 then (0, 4) else fit (fl n c)
/-! ### Floors -/
end Go.Proofs.Ytdoodmapmhibhaa
