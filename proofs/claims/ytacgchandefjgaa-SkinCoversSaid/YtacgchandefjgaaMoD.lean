/-
  Layer 20: offsets by squares.
-/
import Derived.Test.YtacgchandefjgaaProg
import Derived.Test.YtacgchandefjgaaFvX
import Derived.Test.YtacgchandefjgaaFvZ
import Derived.Test.YtacgchandefjgaaAut
import Derived.Test.YtacgchandefjgaaRd
import Derived.Test.YtacgchandefjgaaPl
import Derived.Test.YtacgchandefjgaaScn
import Derived.Test.YtacgchandefjgaaMor
import Derived.Test.YtacgchandefjgaaRgB
import Derived.Test.YtacgchandefjgaaRgC
import Derived.Test.YtacgchandefjgaaRgD
import Derived.Test.YtacgchandefjgaaMoB
import Derived.Test.YtacgchandefjgaaMoC
namespace Go.Proofs.Ytacgchandefjgaa
open Go
noncomputable def moD_L51 : FuncId → Loops := moC_L59
set_option maxRecDepth 100000 in
set_option maxHeartbeats 4000000 in
theorem moD_L51_ok : LoopsOK Try.prog moD_L51 := moC_L59_ok
noncomputable def moD_L52 : FuncId → Loops := moD_L51
set_option maxRecDepth 100000 in
set_option maxHeartbeats 4000000 in
theorem moD_L52_ok : LoopsOK Try.prog moD_L52 := moD_L51_ok
noncomputable def moD_S53 : Sums := moC_S60
theorem moD_S53_ok : SumOK Try.prog moD_S53 := moC_S60_ok
noncomputable def moD_L54 : FuncId → Loops := moD_L52
set_option maxRecDepth 100000 in
set_option maxHeartbeats 4000000 in
theorem moD_L54_ok : LoopsOK Try.prog moD_L54 := moD_L52_ok
noncomputable def moD_L55 : FuncId → Loops := moD_L54
set_option maxRecDepth 100000 in
set_option maxHeartbeats 4000000 in
theorem moD_L55_ok : LoopsOK Try.prog moD_L55 := moD_L54_ok
noncomputable def moD_S56 : Sums := moD_S53
theorem moD_S56_ok : SumOK Try.prog moD_S56 := moD_S53_ok
noncomputable def moD_S57 : Sums := moD_S56
theorem moD_S57_ok : SumOK Try.prog moD_S57 := moD_S56_ok
noncomputable def moD_S58 : Sums := moD_S57
theorem moD_S58_ok : SumOK Try.prog moD_S58 := moD_S57_ok
end Go.Proofs.Ytacgchandefjgaa
