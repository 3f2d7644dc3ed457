/-
  What every world of a seat's calls is said to fulfil: nothing, here. No program is named here.
-/
import Derived.Test.YtacgchandefjgaaExt
namespace Go.Proofs.Ytacgchandefjgaa
@[reducible] def Bas (_ : World) : Prop := True
theorem Bas.ext {w w' : World} (_ : Ext w w') (h : Bas w) : Bas w' := h
end Go.Proofs.Ytacgchandefjgaa
