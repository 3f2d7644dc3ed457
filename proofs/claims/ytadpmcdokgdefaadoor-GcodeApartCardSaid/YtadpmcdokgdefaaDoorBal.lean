/-
  The world of a seat's calls out of a row's condition.
-/
import Derived.Test.YtadpmcdokgdefaaDoorChecked
import Derived.Test.YtadpmcdokgdefaaDoorBas
import Derived.LaidLaws
import Derived.LaidHandle
import Derived.Stop.LaidErr
import Derived.LaidByTextLater
namespace Go.Proofs.YtadpmcdokgdefaaDoor
open Go.RowKit
theorem bas_of_laid {x y : String × DataW Unit} {W : World} (h : laidMet Tryd.prog (x :: y :: ("internal/strconv.uint64pow10", Lib.tabData .u64 Lib.pow10Tab) :: []) W) : Bas W :=
  bas_of (P := Tryd.prog) (by kernel_rfl) (Lib.tabIs_of_head (g := 0) (t := 56) (e := 46) (n := 20) (by kernel_rfl) (by kernel_rfl) (by kernel_rfl) (by kernel_rfl) (by kernel_rfl) (by kernel_rfl) h.tail.tail)
end Go.Proofs.YtadpmcdokgdefaaDoor
