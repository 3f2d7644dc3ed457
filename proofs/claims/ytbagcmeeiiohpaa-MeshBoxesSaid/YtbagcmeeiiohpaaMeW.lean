/-
  Layer 7: the examples of the chapter.
-/
import Derived.Test.YtbagcmeeiiohpaaProg
import Derived.Test.YtbagcmeeiiohpaaFvX
import Derived.Test.YtbagcmeeiiohpaaFvZ
import Derived.Test.YtbagcmeeiiohpaaAut
import Derived.Test.YtbagcmeeiiohpaaRd
import Derived.Test.YtbagcmeeiiohpaaPl
import Derived.Test.YtbagcmeeiiohpaaSeA
import Derived.Test.YtbagcmeeiiohpaaSeB
import Derived.Test.YtbagcmeeiiohpaaSeC
import Derived.Test.YtbagcmeeiiohpaaSeD
namespace Go.Proofs.Ytbagcmeeiiohpaa
open Go
set_option maxRecDepth 100000 in
theorem aw8_tree : evalF Try.prog S0 (opens [23, 52]) L0 9 8 [] = .ret (.one (.v true (.bool true))) := by kernel_rfl
noncomputable def meW_S52 : Sums := addS 8 gTrue seD_S52
theorem meW_S52_ok : SumOK Try.prog meW_S52 := addS_ok (gTrue_ok (by kernel_rfl) (S0_ok _) (L0_ok _) aw8_tree) (seD_S52_ok)
end Go.Proofs.Ytbagcmeeiiohpaa
