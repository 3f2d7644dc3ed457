/-
  A store of a whole struct into a block: the world behind it under a name of its own, with its cells as facts. No program is named here.
-/
import Derived.Test.YtacgchandefjgaaExt
import Derived.Deep.MidRow
import Derived.Laws.Tables
namespace Go.Proofs.Ytacgchandefjgaa
open Go.RowKit
/-- Block b has at least n cells, none of them frozen. -/
def Room (w : World) (b n : Nat) : Prop := (∀ j, j < n → (w.cell? ⟨b, j, none⟩).isSome = true) ∧ ∀ o, w.frozen? ⟨b, o, none⟩ = false
theorem Room.lt {w : World} {b n : Nat} (h : Room w b n) (hn : 0 < n) : b < w.heap.size := by
  obtain ⟨v, hv⟩ := Option.isSome_iff_exists.1 (h.1 0 hn)
  exact cell_lt hv
theorem Room.ext {w w1 : World} {b n : Nat} (h : Room w b n) (hx : Ext w w1) (hn : 0 < n) : Room w1 b n :=
  ⟨fun j hj => by rw [(bcell hx).1 _ _ (h.lt hn)]; exact h.1 j hj, fun o => by rw [(bcell hx).2 _ _ (h.lt hn)]; exact h.2 o⟩
theorem Room.at {w : World} {b n : Nat} {c : Array Value} {t : TypeId} (h : w.heap[b]? = some (.cells c t (0, 0))) (hn : n ≤ c.size) : Room w b n := by
  refine ⟨fun j hj => ?_, fun o => ?_⟩
  · have : j < c.size := by omega
    simp [World.cell?, h, this]
  · simp [World.frozen?, h]
theorem Room.new (w : World) (c : Array Value) (t : TypeId) : Room (w.alloc (.cells c t)) w.heap.size c.size :=
  Room.at (c := c) (t := t) (by show (w.heap.push _)[w.heap.size]? = _; simp) (Nat.le_refl _)
theorem Room.alloc {w : World} {b n : Nat} (h : Room w b n) (hn : 0 < n) (o : Obj) : Room (w.alloc o) b n := h.ext ((Ext.refl w).alloc o) hn
theorem Room.set {w : World} {b n : Nat} (h : Room w b n) (a : Addr) (v : Value) : Room (w.setCell a v) b n :=
  ⟨fun j hj => by
    by_cases e : a = ⟨b, j, none⟩
    · subst e
      obtain ⟨u, hu⟩ := Option.isSome_iff_exists.1 (h.1 j hj)
      rw [World.cell?_setCell_same _ _ _ hu]; rfl
    · rw [World.cell?_setCell_other _ _ _ _ e]; exact h.1 j hj, fun o => by rw [World.frozen?_setCell]; exact h.2 o⟩
/-- The world W' is W with these cells stored at the front of block b. -/
structure Stored (W W' : World) (b : Nat) (vs : List Value) : Prop where
  at' : ∀ j v, vs[j]? = some v → W'.cell? ⟨b, j, none⟩ = some v
  out : ∀ b' o, b' ≠ b → W'.cell? ⟨b', o, none⟩ = W.cell? ⟨b', o, none⟩
  fz : ∀ b' o, W'.frozen? ⟨b', o, none⟩ = W.frozen? ⟨b', o, none⟩
  size : W'.heap.size = W.heap.size
  ext : ∀ w, Ext w W → w.heap.size ≤ b → Ext w W'
theorem Stored.room {W W' : World} {b : Nat} {vs : List Value} (h : Stored W W' b vs) {n : Nat} (hr : Room W b n) (hn : n ≤ vs.length) : Room W' b n :=
  ⟨fun j hj => by rw [h.at' j _ (List.getElem?_eq_getElem (by omega))]; rfl, fun o => by rw [h.fz]; exact hr.2 o⟩
theorem Stored.other {W W' : World} {b b' : Nat} {vs : List Value} (h : Stored W W' b vs) {n : Nat} (hr : Room W b' n) (hb : b' ≠ b) : Room W' b' n :=
  ⟨fun j hj => by rw [h.out _ _ hb]; exact hr.1 j hj, fun o => by rw [h.fz]; exact hr.2 o⟩
theorem stored_cells {b : Nat} : ∀ (vs : List Value) (o : Nat) (w w0 : World), Ext w0 w → w0.heap.size ≤ b → Ext w0 (w.setCells b o vs)
  | [], _, _, _, h, _ => h
  | v :: r, o, w, w0, h, hb => stored_cells r (o + 1) (w.setCell ⟨b, o, none⟩ v) w0 (Ext.setCell h hb v) hb
theorem size_setCells (b : Nat) : ∀ (vs : List Value) (o : Nat) (w : World), (w.setCells b o vs).heap.size = w.heap.size
  | [], _, _ => rfl
  | v :: r, o, w => by rw [World.setCells, size_setCells b r]; simp [World.setCell]
theorem stored_of {W : World} {b : Nat} {vs : List Value} (h : Room W b vs.length) : Stored W (W.setCells b 0 vs) b vs where
  at' := fun j v hj => by
    obtain ⟨hlt, rfl⟩ := List.getElem?_eq_some_iff.1 hj
    have := World.cell?_setCells_in b vs 0 W (fun i hi => by simpa using h.1 i hi) j hlt
    simpa using this
  out := fun b' o hb => World.cell?_setCells_out b vs 0 W _ (fun e _ => absurd e hb)
  fz := fun b' o => World.frozen?_setCells b vs 0 W _
  size := size_setCells b vs 0 W
  ext := fun w hx hb => stored_cells vs 0 W w hx hb
theorem wp_store_agg {P : Program} {o : Oper} {a : Act} {w : World} {K : Act → World → Prop} {Q : Exit → Act → World → Prop} (ty : TypeId) (x y : Operand) (ho : o.op = .store ty x y)
    (b : Nat) (cells : Array Value) (hx : a.eval x = .pointer (some ⟨b, 0, none⟩)) (hy : a.eval y = .agg cells)
    (hi : (P.info? ty).map (·.size) = some cells.size) (h1 : cells.all (·.oneCell') = true) (hr : Room w b cells.toList.length)
    (h : ∀ W', Stored w W' b cells.toList → K (a.put o.dst undef) W') : o.wp P a w K Q := by
  have hst : (storeVar ty ⟨b, 0, none⟩ (.agg cells)).run P w = .ok () (w.setCells b 0 cells.toList) := by
    have := run_storeCells_cells (P := P) b 0 cells.toList 0 w (fun j hj => by simpa using hr.1 j hj) (fun j hj => by simpa using hr.2 j) (fun v hv => (Array.all_eq_true_iff_forall_mem.1 h1) v (by simpa using hv))
    cases hq : P.info? ty with
    | none => simp [hq] at hi
    | some i =>
      have hs : cells.size = i.size := by simp [hq] at hi; omega
      simp [storeVar, sizeOf, typeInfo, hq, Value.cells, hs, this]
  unfold Oper.wp execOp
  simp only [ho, hx, hy, Instr.storeAt, Instr.sureAddr, Sem.run_bind, Sem.run_pure, Result.andThen_ok, hst]
  exact h _ (stored_of hr)
theorem wpList_store_agg {P : Program} {ops : Array Oper} {rest : List Oper} {o : Oper} {a : Act} {w : World} {Q : Exit → Act → World → Prop} (hgd : o.guard = none) (ty : TypeId) (x y : Operand) (ho : o.op = .store ty x y)
    (b : Nat) (cells : Array Value) (hx : a.eval x = .pointer (some ⟨b, 0, none⟩)) (hy : a.eval y = .agg cells)
    (hi : (P.info? ty).map (·.size) = some cells.size) (h1 : cells.all (·.oneCell') = true) (hr : Room w b cells.toList.length)
    (h : ∀ W', Stored w W' b cells.toList → wpList P ops Q rest (a.put o.dst undef) W') : wpList P ops Q (o :: rest) a w :=
  wpList_plain hgd fun _ hK => wp_store_agg ty x y ho b cells hx hy hi h1 hr fun W' hW => hK _ _ (h W' hW)
/-- A mark at which a walk stops. -/
structure Stp (p : Prop) : Prop where
  out : p
theorem stop_store {P : Program} {ops : Array Oper} {rest : List Oper} {o : Oper} {a : Act} {w : World} {Q : Exit → Act → World → Prop} {ty : TypeId} {x y : Operand} (_ho : o.op = .store ty x y) (h : Stp (wpList P ops Q (o :: rest) a w)) : wpList P ops Q (o :: rest) a w := h.out
/-- The world W' is W with v stored at cell off of block b. -/
structure Stored1 (W W' : World) (b off : Nat) (v : Value) : Prop where
  at' : W'.cell? ⟨b, off, none⟩ = some v
  off' : ∀ o, o ≠ off → W'.cell? ⟨b, o, none⟩ = W.cell? ⟨b, o, none⟩
  out : ∀ b' o, b' ≠ b → W'.cell? ⟨b', o, none⟩ = W.cell? ⟨b', o, none⟩
  fz : ∀ b' o, W'.frozen? ⟨b', o, none⟩ = W.frozen? ⟨b', o, none⟩
  size : W'.heap.size = W.heap.size
  ext : ∀ w, Ext w W → w.heap.size ≤ b → Ext w W'
  room : ∀ b' n, Room W b' n → Room W' b' n
theorem stored1_of {W : World} {b n off : Nat} (v : Value) (h : Room W b n) (ho : off < n) : Stored1 W (W.setCell ⟨b, off, none⟩ v) b off v where
  at' := by obtain ⟨u, hu⟩ := Option.isSome_iff_exists.1 (h.1 off ho); exact World.cell?_setCell_same _ _ _ hu
  off' := fun o hne => World.cell?_setCell_other _ _ _ _ (by simp; try omega)
  out := fun b' o hb => World.cell?_setCell_other _ _ _ _ (by simp; try omega)
  fz := fun b' o => World.frozen?_setCell _ _ _ _
  size := by simp [World.setCell]
  ext := fun w hx hb => Ext.setCell hx hb v
  room := fun b' n hr => hr.set _ _
theorem wp_store_one {P : Program} {o : Oper} {a : Act} {w : World} {K : Act → World → Prop} {Q : Exit → Act → World → Prop} (ty : TypeId) (x y : Operand) (ho : o.op = .store ty x y)
    (b off n : Nat) (v : Value) (hx : a.eval x = .pointer (some ⟨b, off, none⟩)) (hy : a.eval y = v) (hv : v.cells = #[v])
    (hi : (P.info? ty).map (·.size) = some 1) (h1 : v.oneCell' = true) (hr : Room w b n) (hoff : off < n)
    (h : ∀ W', Stored1 w W' b off v → K (a.put o.dst undef) W') : o.wp P a w K Q := by
  have hst : (storeVar ty ⟨b, off, none⟩ v).run P w = .ok () (w.setCells b off [v]) := by
    have := run_storeCells_cells (P := P) b off [v] 0 w (fun j hj => by obtain rfl : j = 0 := by simpa using hj
                                                                        simpa using hr.1 off hoff) (fun j hj => by simpa using hr.2 (off + j)) (fun u hu => by obtain rfl : u = v := by simpa using hu
                                                                                                                                                               exact h1)
    cases hq : P.info? ty with
    | none => simp [hq] at hi
    | some i =>
      have hs : i.size = 1 := by simp [hq] at hi; omega
      simp [storeVar, sizeOf, typeInfo, hq, hv, hs, this]
  unfold Oper.wp execOp
  simp only [ho, hx, hy, Instr.storeAt, Instr.sureAddr, Sem.run_bind, Sem.run_pure, Result.andThen_ok, hst]
  exact h _ (stored1_of v hr hoff)
theorem wpList_store_one {P : Program} {ops : Array Oper} {rest : List Oper} {o : Oper} {a : Act} {w : World} {Q : Exit → Act → World → Prop} (hgd : o.guard = none) (ty : TypeId) (x y : Operand) (ho : o.op = .store ty x y)
    (b off n : Nat) (v : Value) (hx : a.eval x = .pointer (some ⟨b, off, none⟩)) (hy : a.eval y = v) (hv : v.cells = #[v])
    (hi : (P.info? ty).map (·.size) = some 1) (h1 : v.oneCell' = true) (hr : Room w b n) (hoff : off < n)
    (h : ∀ W', Stored1 w W' b off v → wpList P ops Q rest (a.put o.dst undef) W') : wpList P ops Q (o :: rest) a w :=
  wpList_plain hgd fun _ hK => wp_store_one ty x y ho b off n v hx hy hv hi h1 hr hoff fun W' hW => hK _ _ (h W' hW)
end Go.Proofs.Ytacgchandefjgaa

