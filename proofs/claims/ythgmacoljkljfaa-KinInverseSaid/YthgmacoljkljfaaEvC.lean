/-
  The evaluator is right: one operation. No program is named here.
-/
import Derived.Test.YthgmacoljkljfaaEvB
import Derived.Test.YthgmacoljkljfaaSto
namespace Go.Proofs.Ythgmacoljkljfaa
open Go
theorem AV.is_at {ρ : Nat → Nat} {x : AV} {u : Value} (h : x.is ρ u) (hx : x ≠ .junk) : u = x.at ρ := by
  cases x <;> first | exact h | exact absurd rfl hx
theorem AV.at_is (ρ : Nat → Nat) (x : AV) : x.is ρ (x.at ρ) := by
  cases x <;> simp [AV.is]
theorem AV.isV_is {ρ : Nat → Nat} {x : AV} {u : Value} (h : x.is ρ u) (hx : x.isV = true) : u = x.raw := by
  cases x <;> simp_all [AV.isV, AV.is, AV.at, AV.raw]
/-- The world and the state that the evaluator speaks of. -/
structure Rep (w0 : World) (ρ : Nat → Nat) (tm : List AV) (own : Own) (a : Act) (w : World) : Prop where
  len : a.tmps.size = tm.length
  tmp : ∀ (t : Nat) (x : AV), tm[t]? = some x → ∃ u, a.tmps[t]? = some u ∧ x.is ρ u
  df : a.defers = []
  ext : Ext w0 w
  cell : ∀ k cs, own k = some cs → ∀ (j : Nat) x, cs[j]? = some x → ∃ u, w.cell? ⟨ρ k, j, none⟩ = some u ∧ x.is ρ u
  fz : ∀ k cs, own k = some cs → ∀ o, w.frozen? ⟨ρ k, o, none⟩ = false
  lo : ∀ k cs, own k = some cs → w0.heap.size ≤ ρ k ∧ ρ k < w.heap.size
  inj : ∀ k k' cs cs', own k = some cs → own k' = some cs' → ρ k = ρ k' → k = k'
  okT : ∀ x ∈ tm, x.ok own
  okC : ∀ k cs, own k = some cs → ∀ x ∈ cs, x.ok own
section
variable {w0 : World} {ρ : Nat → Nat} {tm : List AV} {own : Own} {a : Act} {w : World}
theorem Rep.eval (r : Rep w0 ρ tm own a w) (x : Operand) : (opd tm x).is ρ (a.eval x) := by
  cases x with
  | tmp t =>
    simp only [opd, Act.eval, List.getD_eq_getElem?_getD, Array.getD_eq_getD_getElem?]
    cases h : tm[t]? with
    | some y =>
      obtain ⟨u, hu, hy⟩ := r.tmp t y h
      simpa [hu] using hy
    | none =>
      have : a.tmps[t]? = none := by
        rw [List.getElem?_eq_none_iff] at h
        rw [Array.getElem?_eq_none_iff, r.len]; exact h
      simp [this, AV.is, AV.at]
  | const v => simp [opd, Act.eval, AV.is, AV.at]
  | global g => simp [opd, Act.eval, AV.is, AV.at]
  | func f => simp [opd, Act.eval, AV.is, AV.at]
theorem Rep.okO (r : Rep w0 ρ tm own a w) (x : Operand) : (opd tm x).ok own := by
  cases x with
  | tmp t =>
    simp only [opd, List.getD_eq_getElem?_getD]
    cases h : tm[t]? with
    | some y => exact r.okT y (List.mem_of_getElem? h)
    | none => exact trivial
  | const v => exact trivial
  | global g => exact trivial
  | func f => exact trivial
theorem Rep.grow (r : Rep w0 ρ tm own a w) {w' : World} (h : Ext w w') : Rep w0 ρ tm own a w' where
  len := r.len
  tmp := r.tmp
  df := r.df
  ext := r.ext.trans h
  cell := fun k cs hk j x hx => by
    obtain ⟨u, hu, hx'⟩ := r.cell k cs hk j x hx
    exact ⟨u, h.keep hu, hx'⟩
  fz := fun k cs hk o => by rw [(bcell h).2 _ _ (r.lo k cs hk).2]; exact r.fz k cs hk o
  lo := fun k cs hk => ⟨(r.lo k cs hk).1, Nat.lt_of_lt_of_le (r.lo k cs hk).2 h.size⟩
  inj := r.inj
  okT := r.okT
  okC := r.okC
theorem Rep.put (r : Rep w0 ρ tm own a w) {x : AV} {u : Value} (hx : x.is ρ u) (hok : x.ok own) (dst : Option Tmp) : Rep w0 ρ (putL tm dst x) own (a.put dst u) w := by
  cases dst with
  | none => exact r
  | some d =>
    refine { r with len := ?_, tmp := ?_, okT := ?_ }
    · simp [Act.put, putL, r.len]
    · intro t y hy
      simp only [putL] at hy
      simp only [Act.put]
      rw [List.getElem?_set] at hy
      rw [Array.getElem?_setIfInBounds]
      by_cases hd : d = t
      · subst hd
        by_cases hl : d < tm.length
        · simp [hl] at hy; subst hy
          exact ⟨u, by simp [r.len, hl], hx⟩
        · simp [hl] at hy
      · rw [if_neg hd] at hy ⊢
        exact r.tmp t y hy
    · intro y hy
      simp only [putL] at hy
      rcases List.mem_or_eq_of_mem_set hy with h | h
      · exact r.okT y h
      · subst h; exact hok
theorem AV.ok_set {own : Own} {x : AV} (h : x.ok own) (k : Nat) (cs : List AV) : x.ok (own.set k cs) := by
  have key : ∀ j, (own j).isSome = true → (own.set k cs j).isSome = true := fun j hj => by
    unfold Own.set; split
    · rfl
    · exact hj
  cases x with
  | v _ _ => exact trivial
  | p j _ => exact key j h
  | fn f caps => exact fun q hq => key _ (h q hq)
  | junk => exact trivial
theorem AV.is_congr {own : Own} {ρ ρ' : Nat → Nat} (h : ∀ k, (own k).isSome = true → ρ' k = ρ k) {x : AV} (hx : x.ok own) (u : Value) : x.is ρ' u ↔ x.is ρ u := by
  cases x with
  | v _ _ => exact Iff.rfl
  | p k off => simp only [AV.is, AV.at, h k hx]
  | fn f caps =>
    have : (caps.map fun q => Value.pointer (some ⟨ρ' q.1, q.2, none⟩)) = caps.map fun q => Value.pointer (some ⟨ρ q.1, q.2, none⟩) :=
      List.map_congr_left fun q hq => by rw [h q.1 (hx q hq)]
    simp only [AV.is, AV.at, this]
  | junk => exact Iff.rfl
/-- A new block of own memory. -/
theorem Rep.new (r : Rep w0 ρ tm own a w) {key : Nat} (hk : own key = none) {cs : List AV} {us : Array Value} {t : TypeId}
    (hcs : ∀ (j : Nat) x, cs[j]? = some x → ∃ u, us[j]? = some u ∧ x.is ρ u) (hok : ∀ x ∈ cs, x.ok own) :
    Rep w0 (fun j => if j = key then w.heap.size else ρ j) tm (own.set key cs) a (w.alloc (.cells us t)) := by
  have same : ∀ k, (own k).isSome = true → (if k = key then w.heap.size else ρ k) = ρ k := fun k h => by
    split
    · rename_i e; subst e; rw [hk] at h; cases h
    · rfl
  have hx : Ext w (w.alloc (.cells us t)) := (Ext.refl w).alloc _
  have hsz : (w.alloc (.cells us t)).heap.size = w.heap.size + 1 := by show (w.heap.push _).size = _; simp
  have hat : (w.alloc (.cells us t)).heap[w.heap.size]? = some (.cells us t (0, 0)) := by show (w.heap.push _)[w.heap.size]? = _; simp
  refine { len := r.len, tmp := ?_, df := r.df, ext := r.ext.alloc _, cell := ?_, fz := ?_, lo := ?_, inj := ?_, okT := ?_, okC := ?_ }
  · intro t x ht
    obtain ⟨u, hu, hxu⟩ := r.tmp t x ht
    exact ⟨u, hu, (AV.is_congr same (r.okT x (List.mem_of_getElem? ht)) u).2 hxu⟩
  · intro k cs' hcs' j x hj
    unfold Own.set at hcs'
    by_cases e : k = key
    · subst e
      simp at hcs'; subst hcs'
      obtain ⟨u, hu, hxu⟩ := hcs j x hj
      refine ⟨u, ?_, (AV.is_congr same (hok x (List.mem_of_getElem? hj)) u).2 hxu⟩
      simp only [World.cell?, if_true]
      rw [hat]
      simpa using hu
    · rw [if_neg e] at hcs'
      simp only [if_neg e]
      obtain ⟨u, hu, hxu⟩ := r.cell k cs' hcs' j x hj
      exact ⟨u, hx.keep hu, (AV.is_congr same (r.okC k cs' hcs' x (List.mem_of_getElem? hj)) u).2 hxu⟩
  · intro k cs' hcs' o
    unfold Own.set at hcs'
    by_cases e : k = key
    · subst e
      simp only [World.frozen?, if_true]
      rw [hat]
      simp
    · rw [if_neg e] at hcs'
      simp only [if_neg e]
      rw [(bcell hx).2 _ _ (r.lo k cs' hcs').2]; exact r.fz k cs' hcs' o
  · intro k cs' hcs'
    unfold Own.set at hcs'
    by_cases e : k = key
    · subst e; simp only [if_true, hsz]; exact ⟨r.ext.size, by omega⟩
    · rw [if_neg e] at hcs'
      simp only [if_neg e, hsz]
      have := r.lo k cs' hcs'
      omega
  · intro k k' cs' cs'' h1 h2
    unfold Own.set at h1 h2
    by_cases e : k = key <;> by_cases e' : k' = key
    · intro; rw [e, e']
    · rw [if_neg e'] at h2
      simp only [if_pos e, if_neg e']
      have := r.lo k' cs'' h2
      omega
    · rw [if_neg e] at h1
      simp only [if_neg e, if_pos e']
      have := r.lo k cs' h1
      omega
    · rw [if_neg e] at h1; rw [if_neg e'] at h2
      simp only [if_neg e, if_neg e']
      exact r.inj k k' cs' cs'' h1 h2
  · intro x hx'
    exact AV.ok_set (r.okT x hx') _ _
  · intro k cs' hcs' x hx'
    unfold Own.set at hcs'
    by_cases e : k = key
    · subst e; simp at hcs'; subst hcs'; exact AV.ok_set (hok x hx') _ _
    · rw [if_neg e] at hcs'; exact AV.ok_set (r.okC k cs' hcs' x hx') _ _
/-- A store into own memory. -/
theorem Rep.store (r : Rep w0 ρ tm own a w) {k : Nat} {cells vs : List AV} {off : Nat} (hk : own k = some cells) (hl : off + vs.length ≤ cells.length) {us : List Value} (hus : us.length = vs.length)
    (hvs : ∀ (j : Nat) x, vs[j]? = some x → ∃ u, us[j]? = some u ∧ x.is ρ u) (hok : ∀ x ∈ vs, x.ok own) :
    Rep w0 ρ tm (own.set k (splice cells off vs)) a (w.setCells (ρ k) off us) := by
  have hin : ∀ i, i < us.length → (w.cell? ⟨ρ k, off + i, none⟩).isSome = true := fun i hi => by
    obtain ⟨u, hu, _⟩ := r.cell k cells hk (off + i) cells[off + i] (List.getElem?_eq_getElem (by omega))
    rw [hu]; rfl
  have hext : Ext w0 (w.setCells (ρ k) off us) := stored_cells us off w w0 r.ext (r.lo k cells hk).1
  have hsplice : (splice cells off vs).length = cells.length := by simp [splice]; omega
  have hget : ∀ j, (splice cells off vs)[j]? = if off ≤ j ∧ j < off + vs.length then vs[j - off]? else cells[j]? := fun j => by
    unfold splice
    rw [List.append_assoc]
    by_cases h1 : j < off
    · rw [List.getElem?_append_left (by simp; omega), List.getElem?_take, if_pos h1, if_neg (by omega)]
    · rw [List.getElem?_append_right (by simp; omega)]
      have e : (List.take off cells).length = off := by simp; omega
      rw [e]
      by_cases h2 : j < off + vs.length
      · rw [List.getElem?_append_left (by omega), if_pos (by omega)]
      · rw [List.getElem?_append_right (by omega), List.getElem?_drop, if_neg (by omega)]
        congr 1
        omega
  refine { len := r.len, tmp := r.tmp, df := r.df, ext := hext, cell := ?_, fz := ?_, lo := ?_, inj := ?_, okT := ?_, okC := ?_ }
  · intro k' cs' hcs' j x hj
    unfold Own.set at hcs'
    by_cases e : k' = k
    · subst e
      simp at hcs'; subst hcs'
      rw [hget] at hj
      by_cases h1 : off ≤ j ∧ j < off + vs.length
      · rw [if_pos h1] at hj
        obtain ⟨u, hu, hxu⟩ := hvs _ x hj
        refine ⟨u, ?_, hxu⟩
        have := World.cell?_setCells_in (ρ k') us off w hin (j - off) (by omega)
        rw [show off + (j - off) = j by omega] at this
        rw [this, ← List.getElem?_eq_getElem]
        exact hu
      · rw [if_neg h1] at hj
        obtain ⟨u, hu, hxu⟩ := r.cell k' cells hk j x hj
        refine ⟨u, ?_, hxu⟩
        rw [World.cell?_setCells_out (ρ k') us off w _ (fun _ => by simp only; omega)]
        exact hu
    · rw [if_neg e] at hcs'
      obtain ⟨u, hu, hxu⟩ := r.cell k' cs' hcs' j x hj
      refine ⟨u, ?_, hxu⟩
      rw [World.cell?_setCells_out (ρ k) us off w _ (fun h => absurd (r.inj k' k cs' cells hcs' hk h) e)]
      exact hu
  · intro k' cs' hcs' o
    rw [World.frozen?_setCells]
    unfold Own.set at hcs'
    by_cases e : k' = k
    · subst e; exact r.fz k' cells hk o
    · rw [if_neg e] at hcs'; exact r.fz k' cs' hcs' o
  · intro k' cs' hcs'
    rw [size_setCells]
    unfold Own.set at hcs'
    by_cases e : k' = k
    · subst e; exact r.lo k' cells hk
    · rw [if_neg e] at hcs'; exact r.lo k' cs' hcs'
  · intro k1 k2 c1 c2 h1 h2
    unfold Own.set at h1 h2
    by_cases e : k1 = k <;> by_cases e' : k2 = k
    · intro; rw [e, e']
    · rw [if_neg e'] at h2; subst e; exact r.inj k1 k2 cells c2 hk h2
    · rw [if_neg e] at h1; subst e'; exact r.inj k1 k2 c1 cells h1 hk
    · rw [if_neg e] at h1; rw [if_neg e'] at h2; exact r.inj k1 k2 c1 c2 h1 h2
  · intro x hx'; exact AV.ok_set (r.okT x hx') _ _
  · intro k' cs' hcs' x hx'
    unfold Own.set at hcs'
    by_cases e : k' = k
    · subst e; simp at hcs'; subst hcs'
      refine AV.ok_set ?_ _ _
      simp only [splice, List.mem_append] at hx'
      rcases hx' with (h | h) | h
      · exact r.okC k' cells hk x (List.mem_of_mem_take h)
      · exact hok x h
      · exact r.okC k' cells hk x (List.mem_of_mem_drop h)
    · rw [if_neg e] at hcs'; exact AV.ok_set (r.okC k' cs' hcs' x hx') _ _
end
end Go.Proofs.Ythgmacoljkljfaa
