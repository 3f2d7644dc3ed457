/-
  Small lemmas for the walk of the law WireRoundTrips.
-/
import Derived.Test.YtpckhcnlffddcaaRtMath
namespace Go.Proofs.Ytpckhcnlffddcaa
open Go.RowKit
theorem cell_lt {w : World} {a : Addr} {v : Value} (h : w.cell? a = some v) : a.block < w.heap.size := by
  rcases Nat.lt_or_ge a.block w.heap.size with h' | h'
  · exact h'
  · simp [World.cell?, Array.getElem?_eq_none h'] at h
theorem Ext.keep {W w1 : World} (h : Ext W w1) {a : Addr} {v : Value} (hc : W.cell? a = some v) : w1.cell? a = some v := by
  rw [Below.cell h (cell_lt hc)]; exact hc
theorem heldF {W w1 : World} {b : Nat} {F B T : ByteArray} {n k : Int} (h : Ext W w1) (hs : W.cell? ⟨b, 0, none⟩ = some (.string F) ∧ W.cell? ⟨b, 1, none⟩ = some (.string B) ∧ W.cell? ⟨b, 2, none⟩ = some (.string T) ∧ W.cell? ⟨b, 3, none⟩ = some (.int .i64 n) ∧ W.cell? ⟨b, 4, none⟩ = some (.int .i64 k)) : w1.cell? ⟨b, 0, none⟩ = some (.string F) ∧ w1.cell? ⟨b, 1, none⟩ = some (.string B) ∧ w1.cell? ⟨b, 2, none⟩ = some (.string T) ∧ w1.cell? ⟨b, 3, none⟩ = some (.int .i64 n) ∧ w1.cell? ⟨b, 4, none⟩ = some (.int .i64 k) :=
  ⟨h.keep hs.1, h.keep hs.2.1, h.keep hs.2.2.1, h.keep hs.2.2.2.1, h.keep hs.2.2.2.2⟩
theorem heldF_new (w : World) (F B T : ByteArray) (n k : Int) (Y : TypeId) : ∃ W, w.alloc (.cells #[.string F, .string B, .string T, .int .i64 n, .int .i64 k] Y) = W ∧ Ext w W ∧ (W.cell? ⟨w.heap.size, 0, none⟩ = some (.string F) ∧ W.cell? ⟨w.heap.size, 1, none⟩ = some (.string B) ∧ W.cell? ⟨w.heap.size, 2, none⟩ = some (.string T) ∧ W.cell? ⟨w.heap.size, 3, none⟩ = some (.int .i64 n) ∧ W.cell? ⟨w.heap.size, 4, none⟩ = some (.int .i64 k)) := by
  refine ⟨_, rfl, (Ext.refl w).alloc _, ?_, ?_, ?_, ?_, ?_⟩ <;> go_simp
theorem cat3 (F B : ByteArray) (l : List UInt8) : ∃ x : ByteArray, F ++ ⟨l.toArray⟩ ++ B = x ∧ x.data.toList = F.data.toList ++ l ++ B.data.toList ∧ x.size = F.size + l.length + B.size := by
  refine ⟨_, rfl, by simp [ByteArray.data_append], ?_⟩
  rw [ByteArray.size_append, ByteArray.size_append]
  have : (⟨l.toArray⟩ : ByteArray).size = l.length := by show l.toArray.size = l.length; simp
  omega
theorem str_size (l : List UInt8) : (⟨l.toArray⟩ : ByteArray).size = l.length := by show l.toArray.size = l.length; simp
theorem slice_to (W : World) (s : ByteArray) (h : Int) (h0 : 0 ≤ h) (h1 : h ≤ s.size) :
    (Instr.slice 9 (.string s) none (some (.int .i64 h)) none).run Try.prog W = .ok (.string (s.extract 0 h.toNat)) W := by
  have ht : Try.prog.underlying 9 = some .string := by kernel_rfl
  have e : (Instr.sliceBound (.int .i64 h) s.size .sliceAlen).run Try.prog W = .ok h.toNat W := run_sliceBound _ _ _ _ _ h0 h1
  simp [Instr.slice, run_underlying ht, Instr.sliceBounds, *]
theorem extract_front (s : ByteArray) (n : Nat) : s.extract 0 n = ⟨(s.data.toList.take n).toArray⟩ := by
  apply ByteArray.ext; apply Array.toList_inj.1
  rw [Lib.extract_data]; simp
end Go.Proofs.Ytpckhcnlffddcaa

