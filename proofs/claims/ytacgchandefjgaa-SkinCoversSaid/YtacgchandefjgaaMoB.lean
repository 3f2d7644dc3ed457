/-
  Texts in one: MoA, MoB.
-/
import Derived.Test.YtacgchandefjgaaProg
import Derived.Test.YtacgchandefjgaaFvX
import Derived.Test.YtacgchandefjgaaFvZ
import Derived.Test.YtacgchandefjgaaAut
import Derived.Test.YtacgchandefjgaaRd
import Derived.Test.YtacgchandefjgaaPl
import Derived.Test.YtacgchandefjgaaScn
import Derived.Test.YtacgchandefjgaaMor
import Derived.Test.YtacgchandefjgaaRgB
import Derived.Test.YtacgchandefjgaaRgC
import Derived.Test.YtacgchandefjgaaRgD
namespace Go.Proofs.Ytacgchandefjgaa
open Go
noncomputable def moA_L51 : FuncId → Loops := rgD_L57
set_option maxRecDepth 100000 in
set_option maxHeartbeats 4000000 in
theorem moA_L51_ok : LoopsOK Try.prog moA_L51 := rgD_L57_ok
noncomputable def moA_L52 : FuncId → Loops := moA_L51
set_option maxRecDepth 100000 in
set_option maxHeartbeats 4000000 in
theorem moA_L52_ok : LoopsOK Try.prog moA_L52 := moA_L51_ok
noncomputable def moA_S53 : Sums := rgD_S58
theorem moA_S53_ok : SumOK Try.prog moA_S53 := rgD_S58_ok
noncomputable def moA_S54 : Sums := moA_S53
theorem moA_S54_ok : SumOK Try.prog moA_S54 := moA_S53_ok
noncomputable def moA_S55 : Sums := moA_S54
theorem moA_S55_ok : SumOK Try.prog moA_S55 := moA_S54_ok
noncomputable def moA_S56 : Sums := moA_S55
theorem moA_S56_ok : SumOK Try.prog moA_S56 := moA_S55_ok
noncomputable def moA_L57 : FuncId → Loops := moA_L52
set_option maxRecDepth 100000 in
set_option maxHeartbeats 4000000 in
theorem moA_L57_ok : LoopsOK Try.prog moA_L57 := moA_L52_ok
end Go.Proofs.Ytacgchandefjgaa

namespace Go.Proofs.Ytacgchandefjgaa
open Go
noncomputable def moB_S51 : Sums := moA_S56
theorem moB_S51_ok : SumOK Try.prog moB_S51 := moA_S56_ok
noncomputable def moB_S52 : Sums := moB_S51
theorem moB_S52_ok : SumOK Try.prog moB_S52 := moB_S51_ok
end Go.Proofs.Ytacgchandefjgaa
