/-
  What every world of a seat's calls is said to fulfil: the library's table of powers of ten is there, for any program that gives its variable this number. (Lay it in place of Bas: as XBas.lean.tpl.) No program is named here.
-/
import Derived.Test.YtadpmcdokgdefaaDoorExt
import Derived.Lib.ItoaNum
import Derived.Lib.LaidTab
namespace Go.Proofs.YtadpmcdokgdefaaDoor
open Go.RowKit
@[reducible] def Bas (w : World) : Prop := ∀ P : Program, P.globalNamed "internal/strconv.uint64pow10" = some 0 → Lib.TabIs P w "internal/strconv.uint64pow10" .u64 Lib.pow10Tab
theorem Bas.ext {w w' : World} (h : Ext w w') (b : Bas w) : Bas w' := fun P hP => h.tab (b P hP)
theorem bas_of {P : Program} {w : World} (hP : P.globalNamed "internal/strconv.uint64pow10" = some 0) (h : Lib.TabIs P w "internal/strconv.uint64pow10" .u64 Lib.pow10Tab) : Bas w := by
  intro Q hQ
  unfold Lib.TabIs World.var? at *
  rw [hP] at h
  rw [hQ]
  exact h
end Go.Proofs.YtadpmcdokgdefaaDoor
