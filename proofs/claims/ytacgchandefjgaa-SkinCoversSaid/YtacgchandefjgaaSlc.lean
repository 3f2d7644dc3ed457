/-
  Arguments that are slices of flat elements (ints, flat structs): opened to their elements' cells; read again behind a call that leaves old memory as it was. No program is named here but in the last theorem.
-/
import Derived.Test.YtacgchandefjgaaProg
import Derived.Test.YtacgchandefjgaaFlat
import Derived.Test.YtacgchandefjgaaExt
import Derived.Deep.Slices
import Derived.WalkKit
import Derived.ProofKit
import Derived.OpenShut
import Derived.Stop.Joined
import Derived.ChangeMaps5
import Derived.Lib.SmallJoins
import Derived.WideShapes
import Derived.Laws.AppendOwn
import Derived.OwnWalk
import Derived.WideKeyArgs
import Derived.Carry
namespace Go.Proofs.Ytacgchandefjgaa
open Go.Joins Go.ChangeShapes Go.WideShapes Go.ChangeAt Go.RowKit Go.ChangeMaps
/-- Memory from offset o of block b on holds elements of these cells. -/
def Cells (w : World) (b o : Nat) (cs : List Value) : Prop := ∀ i x, cs[i]? = some x → w.cell? ⟨b, o + i, none⟩ = some x
theorem Cells.ext {w w' : World} {b o : Nat} {cs : List Value} (h : Cells w b o cs) (hx : Ext w w') : Cells w' b o cs := fun i x hi => hx.keep (h i x hi)
/-- v is an empty slice, or its elements lie at these cells. -/
def Opened (W : World) (v : Value) (ks : List Kd) : Prop := (∃ q c, v = .slice q 0 c) ∨ ∃ (b o n c : Nat), v = .slice (some ⟨b, o, none⟩) n c ∧ 0 < n ∧ n ≤ c ∧ c ≤ maxLen ∧ ∀ i, i < n → ∃ cs, Fit ks cs ∧ Cells W b (o + i * ks.length) cs
theorem Fit.length : ∀ {ks : List Kd} {cs : List Value}, Fit ks cs → cs.length = ks.length
  | [], _, h => by cases h; rfl
  | .int _ :: _, _, ⟨_, _, e, _, h⟩ => by subst e; simp [h.length]
  | .bool :: _, _, ⟨_, _, e, h⟩ => by subst e; simp [h.length]
  | .str :: _, _, ⟨_, _, e, _, h⟩ => by subst e; simp [h.length]
section
variable {H : Type} {enc : TypeId × Value → H} {P : Program} {W : World} {base : Nat} {sp : Nat → Bool} {hd : Bool}
theorem open_flats {r : Reach} {b0 : Nat} {t e : TypeId} {v : Value} {d : DataW H} {p : List MemPlace} (m : Nat) (ks : List Kd) (ht : P.underlying t = some (.slice e)) (hk : kinds P m e = some ks) (hc0 : P.cellsOf e = ks.length) (hpos : 0 < ks.length)
    (hw : Value.okWide P W r b0 t v) (h : DataW.Trod enc P W base sp hd t v d p) : Opened W v ks := by
  obtain ⟨fuel, hf⟩ := h
  obtain ⟨a1, n1, c1, rfl⟩ := okWide_slice (e := e) ht hw
  rcases Go.Deep.open_slice (e := e) ht hf with ⟨hc, _⟩ | ⟨a, len, cap, m1, n, D, Pl, hc, hb, hl, hcap, hm, _, hx⟩
  · have : Value.slice a1 n1 c1 = .slice none 0 0 := by simpa [Value.cells] using hc
    exact Or.inl ⟨none, 0, this⟩
  · have hv : Value.slice a1 n1 c1 = .slice (some a) len cap := by simpa [Value.cells] using hc
    rcases Nat.eq_zero_or_pos len with h0 | h0
    · subst h0; exact Or.inl ⟨some a, cap, hv⟩
    · have hlm : len ≤ m1 := by rw [hm]; split <;> omega
      have each : ∀ i, i < len → ∃ cs, Fit ks cs ∧ ∀ j x, cs[j]? = some x → W.cell? ((a.add (i * ks.length)).add j) = some x := by
        intro i hi
        obtain ⟨cs', h1, h2⟩ := hx i (by omega)
        have hfit := (kinds_good n m e ks _ _ hk h2).1
        rw [hc0] at h1
        obtain ⟨_, hlen, hcell⟩ := World.cells?_some h1
        refine ⟨cs', hfit, fun j x hj => ?_⟩
        have hj' := (List.getElem?_eq_some_iff.1 hj)
        obtain ⟨hlt, rfl⟩ := hj'
        have := hcell j (by omega)
        rw [this]
        exact hj
      obtain ⟨b, o, spot⟩ := a
      have hspot : spot = none := by
        obtain ⟨cs, hfit, hcell⟩ := each 0 h0
        have hlen := hfit.length
        have := hcell 0 cs[0] (List.getElem?_eq_getElem (by omega))
        simpa [Addr.add] using World.cell?_spot this
      subst hspot
      refine Or.inr ⟨b, o, len, cap, hv, h0, hl, hcap, fun i hi => ?_⟩
      obtain ⟨cs, hfit, hcell⟩ := each i hi
      refine ⟨cs, hfit, fun j x hj => ?_⟩
      have := hcell j x hj
      rw [Go.WideShapes.add_plain, Go.WideShapes.add_plain] at this
      exact this
end
/-- The ints L lie from offset o of block b on. -/
def IS (w : World) (b o : Nat) (L : List Int) : Prop := ∀ i x, L[i]? = some x → w.cell? ⟨b, o + i, none⟩ = some (.int .i64 x)
theorem IS.ext {w w' : World} {b o : Nat} {L : List Int} (h : IS w b o L) (hx : Ext w w') : IS w' b o L := fun i x hi => hx.keep (h i x hi)
/-- v is a slice of the ints L. -/
def IntsIn (W : World) (v : Value) (L : List Int) : Prop := (L = [] ∧ ∃ q c, v = .slice q 0 c) ∨ ∃ b o c, v = .slice (some ⟨b, o, none⟩) L.length c ∧ 0 < L.length ∧ L.length ≤ c ∧ c ≤ maxLen ∧ IS W b o L
theorem IntsIn.ext {w w' : World} {v : Value} {L : List Int} (h : IntsIn w v L) (hx : Ext w w') : IntsIn w' v L := by
  rcases h with h | ⟨b, o, c, h1, h2, h3, h4, h5⟩
  · exact .inl h
  · exact .inr ⟨b, o, c, h1, h2, h3, h4, h5.ext hx⟩
theorem ints_of_opened {W : World} {v : Value} (h : Opened W v [.int .i64]) : ∃ L, IntsIn W v L ∧ ∀ x ∈ L, (Lit.int .i64 x).wf = true := by
  rcases h with ⟨q, c, rfl⟩ | ⟨b, o, n, c, rfl, h0, hn, hc, hx⟩
  · exact ⟨[], .inl ⟨rfl, q, c, rfl⟩, fun x hx => by cases hx⟩
  · have each : ∀ i, i < n → ∃ x : Int, W.cell? ⟨b, o + i, none⟩ = some (.int .i64 x) ∧ (Lit.int .i64 x).wf = true := by
      intro i hi
      obtain ⟨cs, ⟨x, l, rfl, hw, rfl⟩, hcell⟩ := hx i hi
      exact ⟨x, by simpa using hcell 0 _ rfl, hw⟩
    obtain ⟨f, hf⟩ := Go.Deep.choose_lt each
    refine ⟨(List.range n).map f, .inr ⟨b, o, c, by simp, by simpa using h0, by simpa using hn, hc, ?_⟩, ?_⟩
    · intro i x hi
      have hin : i < n := by
        have := (List.getElem?_eq_some_iff.1 hi).1
        simpa using this
      have e : f i = x := by simpa [hin] using hi
      subst e
      exact (hf i hin).1
    · intro x hx
      obtain ⟨i, hi, rfl⟩ := List.mem_map.1 hx
      exact (hf i (List.mem_range.1 hi)).2
theorem own_ext {w w' : World} {B : Nat} {e : TypeId} {size : Nat} {v : Value} {n : Nat} {xs : List Value} (h : w.ownsRow B e size v n xs) (hx : Ext w w') : w'.ownsRow B e size v n xs :=
  h.kept (row := none) ⟨hx.os, hx.tape, hx.output, hx.size, fun k hk _ => hx.block k hk⟩ (by cases v.ownBlock <;> simp)
theorem own_ints {w : World} {B : Nat} {e : TypeId} {v : Value} {n : Nat} {L : List Int} (h : w.ownsRow B e 1 v n (L.map (Value.int .i64))) : IntsIn w v L := by
  have hc : ∀ {g : Nat}, v.ownBlock = some g → _ := fun {g} => h.cells (g := g)
  obtain ⟨h1, h2⟩ := h
  simp only [List.length_map, Nat.mul_one] at h1
  subst h1
  rcases h2 with ⟨rfl, h0⟩ | ⟨g, cap, cur, rfl, _, _, hcap, hm, _⟩
  · have : L = [] := List.length_eq_zero_iff.1 h0
    exact .inl ⟨this, none, 0, rfl⟩
  · rcases Nat.eq_zero_or_pos L.length with h0 | h0
    · have : L = [] := List.length_eq_zero_iff.1 h0
      subst this
      exact .inl ⟨rfl, _, _, rfl⟩
    · refine .inr ⟨g, 0, cap, rfl, h0, hcap, hm, fun i x hi => ?_⟩
      have := hc (g := g) rfl i (.int .i64 x) (by rw [List.getElem?_map, hi]; rfl)
      rw [Go.WideShapes.add_plain] at this
      exact this
section
variable {H : Type} {enc : TypeId × Value → H} {W : World} {sp : Nat → Bool}
theorem stay_any {t : TypeId} (hr : Program.readableRec Try.prog t = true) (hrow : t < (Try.prog).types.size) {W' : World} {v : Value} {d : DataW H} {ps : List MemPlace} (h : DataW.Trod enc Try.prog W 0 (fun _ => true) true t v d ps) (hb : Ext W W') (hlt : ∀ x ∈ ps, x.block < W.heap.size) (hsp : ∀ x ∈ ps, sp x.block = true) :
    DataW.Trod enc Try.prog W' 0 sp true t v d ps :=
  WideElems.Trod_stays (by kernel_rfl) hr hrow h (fun x hx => hb.same (hlt x hx)) (fun x hx => hsp x hx)
end
end Go.Proofs.Ytacgchandefjgaa

