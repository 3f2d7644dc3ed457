/-
  A store of a whole struct into a block: the world behind it under a name of its own, with its cells as facts. No program is named here.
-/
import Derived.Test.YtdoodmapmhibhaaExt
import Derived.Deep.MidRow
import Derived.Laws.Tables
namespace Go.Proofs.Ytdoodmapmhibhaa
open Go.RowKit
/-- Block b has at least n cells, none of them frozen. -/
def Room (w : World) (b n : Nat) : Prop := (∀ j, j < n → (w.cell? ⟨b, j, none⟩).isSome = true) ∧ ∀ o, w.frozen? ⟨b, o, none⟩ = false
theorem Room.lt {w : World} {b n : Nat} (h : Room w b n) (hn : 0 < n) : b < w.heap.size := by
  obtain ⟨v, hv⟩ := Option.isSome_iff_exists.1 (h.1 0 hn)
  exact cell_lt hv
theorem Room.ext {w w1 : World} {b n : Nat} (h : Room w b n) (hx : Ext w w1) (hn : 0 < n) : Room w1 b n :=
  ⟨fun j hj => by rw [(bcell hx).1 _ _ (h.lt hn)]; exact h.1 j hj, fun o => by rw [(bcell hx).2 _ _ (h.lt hn)]; exact h.2 o⟩
theorem Room.at {w : World} {b n : Nat} {c : Array Value} {t : TypeId} (h : w.heap[b]? = some (.cells c t (0, 0))) (hn : n ≤ c.size) : Room w b n := by
  refine ⟨fun j hj => ?_, fun o => ?_⟩
  · have : j < c.size := by omega
    simp [World.cell?, h, this]
  · simp [World.frozen?, h]
theorem Room.new (w : World) (c : Array Value) (t : TypeId) : Room (w.alloc (.cells c t)) w.heap.size c.size :=
  Room.at (c := c) (t := t) (by show (w.heap.push _)[w.heap.size]? = _; simp) (Nat.le_refl _)
theorem Room.alloc {w : World} {b n : Nat} (h : Room w b n) (hn : 0 < n) (o : Obj) : Room (w.alloc o) b n := h.ext ((Ext.refl w).alloc o) hn
theorem Room.set {w : World} {b n : Nat} (h : Room w b n) (a : Addr) (v : Value) : Room (w.setCell a v) b n :=
  ⟨fun j hj => by
    by_cases e : a = ⟨b, j, none⟩
    · subst e
      obtain ⟨u, hu⟩ := Option.isSome_iff_exists.1 (h.1 j hj)
      rw [World.cell?_setCell_same _ _ _ hu]; rfl
    · rw [World.cell?_setCell_other _ _ _ _ e]; exact h.1 j hj, fun o => by rw [World.frozen?_setCell]; exact h.2 o⟩
/-- The world W' is W with these cells stored at the front of block b. -/
structure Stored (W W' : World) (b : Nat) (vs : List Value) : Prop where
  at' : ∀ j v, vs[j]? = some v → W'.cell? ⟨b, j, none⟩ = some v
  out : ∀ b' o, b' ≠ b → W'.cell? ⟨b', o, none⟩ = W.cell? ⟨b', o, none⟩
  fz : ∀ b' o, W'.frozen? ⟨b', o, none⟩ = W.frozen? ⟨b', o, none⟩
  size : W'.heap.size = W.heap.size
  ext : ∀ w, Ext w W → w.heap.size ≤ b → Ext w W'
theorem Stored.room {W W' : World} {b : Nat} {vs : List Value} (h : Stored W W' b vs) {n : Nat} (hr : Room W b n) (hn : n ≤ vs.length) : Room W' b n :=
  ⟨fun j hj => by rw [h.at' j _ (List.getElem?_eq_getElem (by omega))]; rfl, fun o => by rw [h.fz]; exact hr.2 o⟩
theorem Stored.other {W W' : World} {b b' : Nat} {vs : List Value} (h : Stored W W' b vs) {n : Nat} (hr : Room W b' n) (hb : b' ≠ b) : Room W' b' n :=
  ⟨fun j hj => by rw [h.out _ _ hb]; exact hr.1 j hj, fun o => by rw [h.fz]; exact hr.2 o⟩
theorem stored_cells {b : Nat} : ∀ (vs : List Value) (o : Nat) (w w0 : World), Ext w0 w → w0.heap.size ≤ b → Ext w0 (w.setCells b o vs)
  | [], _, _, _, h, _ => h
  | v :: r, o, w, w0, h, hb => stored_cells r (o + 1) (w.setCell ⟨b, o, none⟩ v) w0 (Ext.setCell h hb v) hb
theorem size_setCells (b : Nat) : ∀ (vs : List Value) (o : Nat) (w : World), (w.setCells b o vs).heap.size = w.heap.size
  | [], _, _ => rfl
  | v :: r, o, w => by rw [World.setCells, size_setCells b r]; simp [World.setCell]
/-- A mark at which a walk stops. -/
structure Stp (p : Prop) : Prop where
  out : p
/-- The world W' is W with v stored at cell off of block b. -/
structure Stored1 (W W' : World) (b off : Nat) (v : Value) : Prop where
  at' : W'.cell? ⟨b, off, none⟩ = some v
  off' : ∀ o, o ≠ off → W'.cell? ⟨b, o, none⟩ = W.cell? ⟨b, o, none⟩
  out : ∀ b' o, b' ≠ b → W'.cell? ⟨b', o, none⟩ = W.cell? ⟨b', o, none⟩
  fz : ∀ b' o, W'.frozen? ⟨b', o, none⟩ = W.frozen? ⟨b', o, none⟩
  size : W'.heap.size = W.heap.size
  ext : ∀ w, Ext w W → w.heap.size ≤ b → Ext w W'
  room : ∀ b' n, Room W b' n → Room W' b' n
end Go.Proofs.Ytdoodmapmhibhaa

