/-
  Layer 7: the examples of the chapter.
-/
import Derived.Test.YtmdjakacpcnhmaaProg
import Derived.Test.YtmdjakacpcnhmaaFvX
import Derived.Test.YtmdjakacpcnhmaaFvZ
import Derived.Test.YtmdjakacpcnhmaaAut
import Derived.Test.YtmdjakacpcnhmaaRd
import Derived.Test.YtmdjakacpcnhmaaPl
import Derived.Test.YtmdjakacpcnhmaaSeA
import Derived.Test.YtmdjakacpcnhmaaSeB
import Derived.Test.YtmdjakacpcnhmaaSeC
import Derived.Test.YtmdjakacpcnhmaaSeD
namespace Go.Proofs.Ytmdjakacpcnhmaa
open Go
set_option maxRecDepth 100000 in
theorem aw14_tree : evalF Try.prog S0 (opens [37, 64]) L0 9 14 [] = .ret (.one (.v true (.bool true))) := by kernel_rfl
noncomputable def meW_S52 : Sums := addS 14 gTrue seD_S54
theorem meW_S52_ok : SumOK Try.prog meW_S52 := addS_ok (gTrue_ok (by kernel_rfl) (S0_ok _) (L0_ok _) aw14_tree) (seD_S54_ok)
end Go.Proofs.Ytmdjakacpcnhmaa
