/-
  Layer 51: the example of the chapter.
-/
import Derived.Test.YtabjagbdaamaaaaProg
import Derived.Test.YtabjagbdaamaaaaFvX
import Derived.Test.YtabjagbdaamaaaaFvZ
import Derived.Test.YtabjagbdaamaaaaAut
import Derived.Test.YtabjagbdaamaaaaRd
import Derived.Test.YtabjagbdaamaaaaPl
import Derived.Test.YtabjagbdaamaaaaScn
import Derived.Test.YtabjagbdaamaaaaFsA
import Derived.Test.YtabjagbdaamaaaaFld
import Derived.Test.YtabjagbdaamaaaaRpl
import Derived.Test.YtabjagbdaamaaaaFsB
import Derived.Test.YtabjagbdaamaaaaFsC
namespace Go.Proofs.Ytabjagbdaamaaaa
open Go
set_option maxRecDepth 100000 in
theorem aw13_val : (match (evalF Try.prog fsC_S59 (opens []) fsB_L54 9 13 []).val with | some (.one (.v _ (.bool true))) => true | _ => false) = true := by kernel_rfl
noncomputable def fsD_S52 : Sums := addS 13 gTrue fsC_S59
theorem fsD_S52_ok : SumOK Try.prog fsD_S52 := addS_ok (gTrueV_ok (by kernel_rfl) (fsC_S59_ok) (fsB_L54_ok) aw13_val) (fsC_S59_ok)
end Go.Proofs.Ytabjagbdaamaaaa
