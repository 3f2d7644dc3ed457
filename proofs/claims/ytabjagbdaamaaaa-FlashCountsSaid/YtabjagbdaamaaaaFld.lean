/-
  Layer 51: pages written anew.
-/
import Derived.Test.YtabjagbdaamaaaaFsA
namespace Go.Proofs.Ytabjagbdaamaaaa
open Go
/-- A page whose beginning is written anew. -/
def rpl (p d : ByteArray) : ByteArray := ⟨(d.data.toList ++ p.data.toList.drop d.size).toArray⟩
end Go.Proofs.Ytabjagbdaamaaaa
