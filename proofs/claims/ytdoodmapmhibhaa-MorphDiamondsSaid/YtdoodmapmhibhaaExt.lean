/-
  Small laws on worlds that grow: stores into new blocks, facts on cells kept. No program is named here.
-/
import Derived.Test.YtdoodmapmhibhaaVecM
namespace Go.Proofs.Ytdoodmapmhibhaa
open Go.RowKit
theorem Ext.setCell {w W : World} (h : Ext w W) {p : Addr} (hp : w.heap.size ≤ p.block) (u : Value) : Ext w (W.setCell p u) := ⟨Below.setCell h.toBelow hp u, h.drawn⟩
theorem Ext.le {w W : World} (h : Ext w W) : w.heap.size ≤ W.heap.size := h.size
section
variable {W w1 : World} {a0 a1 a2 a3 a4 a5 a6 a7 a8 a9 a10 a11 : Addr} {v0 v1 v2 v3 v4 v5 v6 v7 v8 v9 v10 v11 : Value}
end
end Go.Proofs.Ytdoodmapmhibhaa

