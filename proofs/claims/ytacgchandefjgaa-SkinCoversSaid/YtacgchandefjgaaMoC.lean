/-
  Layer 20: windows of rows, regions of rows.
-/
import Derived.Test.YtacgchandefjgaaProg
import Derived.Test.YtacgchandefjgaaFvX
import Derived.Test.YtacgchandefjgaaFvZ
import Derived.Test.YtacgchandefjgaaAut
import Derived.Test.YtacgchandefjgaaRd
import Derived.Test.YtacgchandefjgaaPl
import Derived.Test.YtacgchandefjgaaScn
import Derived.Test.YtacgchandefjgaaMor
import Derived.Test.YtacgchandefjgaaRgB
import Derived.Test.YtacgchandefjgaaRgC
import Derived.Test.YtacgchandefjgaaRgD
import Derived.Test.YtacgchandefjgaaMoB
namespace Go.Proofs.Ytacgchandefjgaa
open Go
noncomputable def moC_L51 : FuncId → Loops := moA_L57
set_option maxRecDepth 100000 in
set_option maxHeartbeats 4000000 in
theorem moC_L51_ok : LoopsOK Try.prog moC_L51 := moA_L57_ok
noncomputable def moC_S52 : Sums := moB_S52
theorem moC_S52_ok : SumOK Try.prog moC_S52 := moB_S52_ok
noncomputable def moC_L53 : FuncId → Loops := moC_L51
set_option maxRecDepth 100000 in
set_option maxHeartbeats 4000000 in
theorem moC_L53_ok : LoopsOK Try.prog moC_L53 := moC_L51_ok
noncomputable def moC_L54 : FuncId → Loops := moC_L53
set_option maxRecDepth 100000 in
set_option maxHeartbeats 4000000 in
theorem moC_L54_ok : LoopsOK Try.prog moC_L54 := moC_L53_ok
noncomputable def moC_L55 : FuncId → Loops := moC_L54
set_option maxRecDepth 100000 in
set_option maxHeartbeats 4000000 in
theorem moC_L55_ok : LoopsOK Try.prog moC_L55 := moC_L54_ok
noncomputable def moC_S56 : Sums := moC_S52
theorem moC_S56_ok : SumOK Try.prog moC_S56 := moC_S52_ok
noncomputable def moC_L57 : FuncId → Loops := moC_L55
set_option maxRecDepth 100000 in
set_option maxHeartbeats 4000000 in
theorem moC_L57_ok : LoopsOK Try.prog moC_L57 := moC_L55_ok
noncomputable def moC_L58 : FuncId → Loops := moC_L57
set_option maxRecDepth 100000 in
set_option maxHeartbeats 4000000 in
theorem moC_L58_ok : LoopsOK Try.prog moC_L58 := moC_L57_ok
noncomputable def moC_L59 : FuncId → Loops := moC_L58
set_option maxRecDepth 100000 in
set_option maxHeartbeats 4000000 in
theorem moC_L59_ok : LoopsOK Try.prog moC_L59 := moC_L58_ok
noncomputable def moC_S60 : Sums := moC_S56
theorem moC_S60_ok : SumOK Try.prog moC_S60 := moC_S56_ok
end Go.Proofs.Ytacgchandefjgaa
