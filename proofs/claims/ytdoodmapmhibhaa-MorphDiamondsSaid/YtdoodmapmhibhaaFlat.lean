/-
  Arguments that are flat: ints, bools, strings, and structs and arrays of these, by value: opened to their cells, and read again in any world. No program is named here.
-/
import Derived.WalkKit
import Derived.OpenShut
import Derived.WideShapes
namespace Go.Proofs.Ytdoodmapmhibhaa
open Go.RowKit Go.WideShapes Go.ChangeShapes
/-- What one cell of a flat value holds. -/
inductive Kd where
  | int (k : IntKind)
  | bool
  | str
def itemsKinds (P : Program) (look : TypeId → Option (List Kd)) : List (Nat × TypeId) → Nat → Option (List Kd)
  | [], _ => some []
  | x :: l, off =>
    if x.1 = off then
      match look x.2 with
      | some ks => if ks.length = P.cellsOf x.2 then (match itemsKinds P look l (off + ks.length) with | some ls => some (ks ++ ls) | none => none) else none
      | none => none
    else none
def sized (P : Program) (t : TypeId) (o : Option (List Kd)) : Option (List Kd) :=
  match o with
  | some ks => if ks.length = P.cellsOf t then some ks else none
  | none => none
/-- The kinds of a flat type's cells, in their order. -/
def kinds (P : Program) : Nat → TypeId → Option (List Kd)
  | 0, _ => none
  | n + 1, t =>
    match P.underlying t with
    | some .bool => some [.bool]
    | some (.int k) => some [.int k]
    | some .string => some [.str]
    | some (.struct fs) => sized P t (itemsKinds P (kinds P n) (fs.toList.map fun f => (f.offset, f.type)) 0)
    | some (.array m e) => sized P t (itemsKinds P (kinds P n) ((List.range m).map fun i => (i * P.cellsOf e, e)) 0)
    | _ => none
/-- The cells are of these kinds, and in their ranges. -/
def Fit : List Kd → List Value → Prop
  | [], cs => cs = []
  | .int k :: ks, cs => ∃ (n : Int) (l : List Value), cs = .int k n :: l ∧ (Lit.int k n).wf = true ∧ Fit ks l
  | .bool :: ks, cs => ∃ (b : Bool) (l : List Value), cs = .bool b :: l ∧ Fit ks l
  | .str :: ks, cs => ∃ (s : ByteArray) (l : List Value), cs = .string s :: l ∧ s.size ≤ maxLen ∧ Fit ks l
theorem Fit.append : ∀ {k1 k2 : List Kd} {c1 c2 : List Value}, Fit k1 c1 → Fit k2 c2 → Fit (k1 ++ k2) (c1 ++ c2)
  | [], _, _, _, h1, h2 => by cases h1; exact h2
  | .int _ :: _, _, _, _, ⟨n, l, e, w, h⟩, h2 => by subst e; exact ⟨n, l ++ _, rfl, w, Fit.append h h2⟩
  | .bool :: _, _, _, _, ⟨b, l, e, h⟩, h2 => by subst e; exact ⟨b, l ++ _, rfl, Fit.append h h2⟩
  | .str :: _, _, _, _, ⟨s, l, e, w, h⟩, h2 => by subst e; exact ⟨s, l ++ _, rfl, w, Fit.append h h2⟩
section
variable {H : Type} {enc : TypeId × Value → H} {P : Program}
theorem okWide_agg {W : World} {r : Reach} {b0 : Nat} {t : TypeId} {v : Value} (ha : (match P.underlying t with | some (.struct _) => true | some (.array _ _) => true | _ => false) = true) (h : Value.okWide P W r b0 t v) : ∃ l : List Value, v = .agg l.toArray := by
  unfold Value.okWide at h
  split at ha
  · rename_i hu; simp only [hu] at h; obtain ⟨cs, rfl, _⟩ := h; exact ⟨cs.toList, by simp⟩
  · rename_i hu; simp only [hu] at h; obtain ⟨cs, rfl, _⟩ := h; exact ⟨cs.toList, by simp⟩
  · cases ha
end
end Go.Proofs.Ytdoodmapmhibhaa

