/-
  A slice of bytes that a call made itself: made with zeros, written cell by cell, read as a string. Small lemmas over this seat's numbers of types.
-/
import Derived.Test.YtpckhcnlffddcaaChecked
import Derived.Test.YtpckhcnlffddcaaBase
import Derived.Test.YtpckhcnlffddcaaArith
import Derived.WalkLawsBesides
import Derived.ProofKit
import Derived.Lib.Hide
import Derived.OwnWalk
import Derived.Laws.BytesString
import Derived.Laws.Cells
namespace Go.Proofs.Ytpckhcnlffddcaa
open Go.RowKit
theorem infoB : (Try.prog.info? 5).map (fun i => (i.zero, i.size, i.bytes)) = some (some (.int .u8 0), 1, 1) := by kernel_rfl
/-- Bytes as the model's values. -/
def bv (l : List UInt8) : List Value := l.map fun c => .int .u8 (c.toNat : Int)
theorem bv_append (l m : List UInt8) : bv (l ++ m) = bv l ++ bv m := List.map_append
theorem bv_len (l : List UInt8) : (bv l).length = l.length := by simp [bv]
theorem fold_push (l : List UInt8) : (l.map fun c => (c.toNat : Int)).foldl (fun r n => r.push (UInt8.ofNat n.toNat)) ByteArray.empty = ⟨l.toArray⟩ := by
  have main : ∀ (l : List UInt8) (r : ByteArray), (l.map fun c => (c.toNat : Int)).foldl (fun r n => r.push (UInt8.ofNat n.toNat)) r = ⟨r.data ++ l.toArray⟩ := by
    intro l
    induction l with
    | nil => intro r; simp
    | cons c l ih =>
      intro r
      rw [List.map_cons, List.foldl_cons, ih]
      simp [ByteArray.push]
  rw [main]; apply ByteArray.ext; show (#[] : Array UInt8) ++ l.toArray = l.toArray; simp
/-- Block B is a slice of n bytes of the call's own that holds l. -/
def Own (w : World) (B n : Nat) (l : List UInt8) : Prop := w.ownsRow B 5 1 (.slice (some ⟨B, 0, none⟩) n n) n (bv l)
theorem made (w : World) (n : Nat) (h : n ≤ 1073741824) : ∃ w', (Instr.makeSlice 33 (.int .i64 (n : Int)) (.int .i64 (n : Int))).run Try.prog w = .ok (.slice (some ⟨w.heap.size, 0, none⟩) n n) w' ∧ Own w' w.heap.size n (List.replicate n 0) ∧ Ext w w' ∧ w.heap.size < w'.heap.size := by
  obtain ⟨i, hi, hz0, hz1, hz2⟩ : ∃ i, Try.prog.info? 5 = some i ∧ i.zero = some (.int .u8 0) ∧ i.size = 1 ∧ i.bytes = 1 := by
    have h := infoB
    cases hi : Try.prog.info? 5 with
    | none => rw [hi] at h; cases h
    | some i =>
      rw [hi] at h
      simp only [Option.map_some, Option.some.injEq, Prod.mk.injEq] at h
      exact ⟨i, rfl, h.1, h.2.1, h.2.2⟩
  obtain ⟨w', r, o, g⟩ := run_make_full (P := Try.prog) w w.heap.size 33 5 i (.int .u8 0) 1 (by kernel_rfl) hi hz0 hz1 .i64 .i64 n (by rw [hz2]; omega) (by unfold maxLen; omega) (Nat.le_refl _)
  have e : (madeCells (Value.cells (.int .u8 0)) (n * 1)).toList = bv (List.replicate n 0) := by
    apply List.ext_getElem?
    intro j
    simp only [madeCells, bv, Value.cells, Array.toList_map, List.getElem?_map, Nat.mul_one]
    by_cases hj : j < n
    · simp [hj, Nat.mod_one]
    · simp [hj]
  rw [e] at o
  refine ⟨w', r, o, ⟨g.os, g.tape, g.output, g.size, fun k hk => g.block k hk (by simp)⟩, ?_⟩
  rcases o.2 with ⟨h', _⟩ | ⟨g', _, _, h', _, hg, _⟩
  · cases h'
  · simp only [Value.slice.injEq, Option.some.injEq, Addr.mk.injEq, and_true, true_and] at h'
    obtain ⟨rfl, _⟩ := h'
    exact (Array.getElem?_eq_some_iff.1 hg).1
theorem Own.cell {w : World} {B n : Nat} {l : List UInt8} (h : Own w B n l) (j : Nat) (hj : j < n) : w.cell? ⟨B, j, none⟩ = some (.int .u8 ((l.getD j 0).toNat : Int)) ∧ w.frozen? ⟨B, j, none⟩ = false := by
  refine ⟨?_, World.ownsRow.frozenAt h j⟩
  have hl : l.length = n := by have := h.1; rw [bv_len] at this; omega
  rw [World.ownsRow.cellAt h j (by omega)]
  simp [bv, List.getElem?_eq_getElem (show j < l.length by omega), List.getD]
theorem Own.store {w : World} {B n : Nat} {l : List UInt8} (h : Own w B n l) (j : Nat) (c : UInt8) : Own (w.setCell ⟨B, j, none⟩ (.int .u8 (c.toNat : Int))) B n (l.set j c) := by
  have := (World.ownsRow.stored h j (.int .u8 (c.toNat : Int))).1
  unfold Own bv at *
  rw [List.map_set]
  exact this
theorem Own.string {w : World} {B n : Nat} {l : List UInt8} (h : Own w B n l) :
    (convert 33 9 (.slice (some ⟨B, 0, none⟩) n n)).run Try.prog w = .ok (.string ⟨l.toArray⟩) w := by
  rw [run_convert_bytes_string _ _ _ 5 _ _ _ (by kernel_rfl) (by kernel_rfl) (by kernel_rfl)]
  have hl : l.length = n := by have := h.1; rw [bv_len] at this; omega
  have hc := run_loadCells_list (P := Try.prog) (w := w) ⟨B, 0, none⟩ (bv l) (by
    intro j v hj
    have hjl : j < n := by
      have := (List.getElem?_eq_some_iff.1 hj).1
      rw [bv_len] at this; omega
    rw [show (⟨B, 0, none⟩ : Addr).add j = ⟨B, j, none⟩ by simp [Addr.add]; exact fun e => e.symm, World.ownsRow.cellAt h j (by omega), hj])
  rw [bv_len, hl] at hc
  have e : bv l = (l.map fun c => (c.toNat : Int)).map (Value.int .u8) := by simp [bv]
  rw [e] at hc
  rw [run_bytesToString _ _ n n _ hc]
  rw [fold_push]
end Go.Proofs.Ytpckhcnlffddcaa
