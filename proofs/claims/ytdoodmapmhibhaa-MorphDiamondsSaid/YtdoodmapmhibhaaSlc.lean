/-
  Arguments that are slices of flat elements (ints, flat structs): opened to their elements' cells; read again behind a call that leaves old memory as it was. No program is named here but in the last theorem.
-/
import Derived.Test.YtdoodmapmhibhaaProg
import Derived.Test.YtdoodmapmhibhaaFlat
import Derived.Test.YtdoodmapmhibhaaExt
import Derived.Deep.Slices
import Derived.WalkKit
import Derived.ProofKit
import Derived.OpenShut
import Derived.Stop.Joined
import Derived.ChangeMaps5
import Derived.Lib.SmallJoins
import Derived.WideShapes
import Derived.Laws.AppendOwn
import Derived.OwnWalk
import Derived.WideKeyArgs
import Derived.Carry
namespace Go.Proofs.Ytdoodmapmhibhaa
open Go.Joins Go.ChangeShapes Go.WideShapes Go.ChangeAt Go.RowKit Go.ChangeMaps
/-- Memory from offset o of block b on holds elements of these cells. -/
def Cells (w : World) (b o : Nat) (cs : List Value) : Prop := ∀ i x, cs[i]? = some x → w.cell? ⟨b, o + i, none⟩ = some x
theorem Cells.ext {w w' : World} {b o : Nat} {cs : List Value} (h : Cells w b o cs) (hx : Ext w w') : Cells w' b o cs := fun i x hi => hx.keep (h i x hi)
theorem Fit.length : ∀ {ks : List Kd} {cs : List Value}, Fit ks cs → cs.length = ks.length
  | [], _, h => by cases h; rfl
  | .int _ :: _, _, ⟨_, _, e, _, h⟩ => by subst e; simp [h.length]
  | .bool :: _, _, ⟨_, _, e, h⟩ => by subst e; simp [h.length]
  | .str :: _, _, ⟨_, _, e, _, h⟩ => by subst e; simp [h.length]
section
variable {H : Type} {enc : TypeId × Value → H} {P : Program} {W : World} {base : Nat} {sp : Nat → Bool} {hd : Bool}
end
/-- The ints L lie from offset o of block b on. -/
def IS (w : World) (b o : Nat) (L : List Int) : Prop := ∀ i x, L[i]? = some x → w.cell? ⟨b, o + i, none⟩ = some (.int .i64 x)
theorem IS.ext {w w' : World} {b o : Nat} {L : List Int} (h : IS w b o L) (hx : Ext w w') : IS w' b o L := fun i x hi => hx.keep (h i x hi)
/-- v is a slice of the ints L. -/
def IntsIn (W : World) (v : Value) (L : List Int) : Prop := (L = [] ∧ ∃ q c, v = .slice q 0 c) ∨ ∃ b o c, v = .slice (some ⟨b, o, none⟩) L.length c ∧ 0 < L.length ∧ L.length ≤ c ∧ c ≤ maxLen ∧ IS W b o L
theorem IntsIn.ext {w w' : World} {v : Value} {L : List Int} (h : IntsIn w v L) (hx : Ext w w') : IntsIn w' v L := by
  rcases h with h | ⟨b, o, c, h1, h2, h3, h4, h5⟩
  · exact .inl h
  · exact .inr ⟨b, o, c, h1, h2, h3, h4, h5.ext hx⟩
section
variable {H : Type} {enc : TypeId × Value → H} {W : World} {sp : Nat → Bool}
theorem stay_any {t : TypeId} (hr : Program.readableRec Try.prog t = true) (hrow : t < (Try.prog).types.size) {W' : World} {v : Value} {d : DataW H} {ps : List MemPlace} (h : DataW.Trod enc Try.prog W 0 (fun _ => true) true t v d ps) (hb : Ext W W') (hlt : ∀ x ∈ ps, x.block < W.heap.size) (hsp : ∀ x ∈ ps, sp x.block = true) :
    DataW.Trod enc Try.prog W' 0 sp true t v d ps :=
  WideElems.Trod_stays (by kernel_rfl) hr hrow h (fun x hx => hb.same (hlt x hx)) (fun x hx => hsp x hx)
end
end Go.Proofs.Ytdoodmapmhibhaa

