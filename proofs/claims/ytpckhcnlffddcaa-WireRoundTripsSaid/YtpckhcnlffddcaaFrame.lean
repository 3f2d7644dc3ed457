/-
  The law's argument, a struct of three strings and two ints by value: opened, and shut.
-/
import Derived.Test.YtpckhcnlffddcaaLawRv
import Derived.ProofKit
import Derived.ChangeMaps5
import Derived.Lib.SmallJoins
namespace Go.Proofs.Ytpckhcnlffddcaa
open Go.Joins Go.ChangeShapes Go.WideShapes Go.ChangeAt Go.RowKit Go.ChangeMaps
theorem i64_rangeF {n : Int} (h : (Lit.int .i64 n).wf = true) : -9223372036854775808 ≤ n ∧ n ≤ 9223372036854775807 := i64_range h
section
variable {H : Type} {enc : TypeId × Value → H} {W : World} {base : Nat} {sp : Nat → Bool} {hd : Bool}
theorem frame_fields : ∃ f0 f1 f2 f3 f4 : Field, Try.prog.underlying 38 = some (.struct #[f0, f1, f2, f3, f4]) ∧ (f0.type = 9 ∧ f1.type = 9 ∧ f2.type = 9 ∧ f3.type = 3 ∧ f4.type = 3) ∧ (f0.offset = 0 ∧ f1.offset = 1 ∧ f2.offset = 2 ∧ f3.offset = 3 ∧ f4.offset = 4) := by
  refine ⟨⟨"Front", 9, 0, false, "", "", 0⟩, ⟨"Back", 9, 1, false, "", "", 16⟩, ⟨"Text", 9, 2, false, "", "", 32⟩, ⟨"N", 3, 3, false, "", "", 48⟩, ⟨"Width", 3, 4, false, "", "", 56⟩, by kernel_rfl, ?_, ?_⟩ <;> simp
theorem frame_cells : Try.prog.cellsOf 38 = 5 ∧ Try.prog.cellsOf 9 = 1 ∧ Try.prog.cellsOf 3 = 1 := ⟨by kernel_rfl, by kernel_rfl, by kernel_rfl⟩
theorem open_frame {r : Reach} {b0 : Nat} {v : Value} {d : DataW H} {p : List MemPlace} (hv : Value.okWide Try.prog W r b0 38 v) (h : DataW.Trod enc Try.prog W base sp hd 38 v d p) :
    ∃ (F B T : ByteArray) (n k : Int), v = .agg #[.string F, .string B, .string T, .int .i64 n, .int .i64 k] ∧ d = .agg [.lit (.string F.data.toList), .lit (.string B.data.toList), .lit (.string T.data.toList), .lit (.int .i64 n), .lit (.int .i64 k)] ∧ p = [] ∧
      F.size ≤ maxLen ∧ B.size ≤ maxLen ∧ T.size ≤ maxLen ∧ (Lit.int .i64 n).wf = true ∧ (Lit.int .i64 k).wf = true := by
  obtain ⟨f0, f1, f2, f3, f4, hs, ⟨t0, t1, t2, t3, t4⟩, ⟨o0, o1, o2, o3, o4⟩⟩ := frame_fields
  obtain ⟨k0, k1, k2⟩ := frame_cells
  obtain ⟨⟨l⟩, rfl, hsz⟩ := okWide_struct hs hv
  rw [k0] at hsz
  obtain ⟨fuel, hf⟩ := h
  obtain ⟨xs, m, _, hx, _, hxl, hg⟩ := DataW.trod_struct hs hf
  match l, hsz, xs, hxl with
  | [c0, c1, c2, c3, c4], _, [y0, y1, y2, y3, y4], _ =>
    have g0 := hg 0 f0 rfl
    have g1 := hg 1 f1 rfl
    have g2 := hg 2 f2 rfl
    have g3 := hg 3 f3 rfl
    have g4 := hg 4 f4 rfl
    simp only [t0, t1, t2, t3, t4, o0, o1, o2, o3, o4, k1, k2] at g0 g1 g2 g3 g4
    obtain ⟨F, e0, x0, w0⟩ := DataW.trod_string Try.underlying9 g0
    obtain ⟨B, e1, x1, w1⟩ := DataW.trod_string Try.underlying9 g1
    obtain ⟨T, e2, x2, w2⟩ := DataW.trod_string Try.underlying9 g2
    obtain ⟨n, e3, x3, w3⟩ := DataW.trod_int Try.underlying3 g3
    obtain ⟨k, e4, x4, w4⟩ := DataW.trod_int Try.underlying3 g4
    simp [Value.cells] at e0 e1 e2 e3 e4
    subst e0 e1 e2 e3 e4 x0 x1 x2 x3 x4
    simp at hx
    exact ⟨F, B, T, n, k, rfl, hx.1, hx.2, w0, w1, w2, w3, w4⟩
theorem shut_frame (W : World) {F B T : ByteArray} {n k : Int} (w0 : F.size ≤ maxLen) (w1 : B.size ≤ maxLen) (w2 : T.size ≤ maxLen) (w3 : (Lit.int .i64 n).wf = true) (w4 : (Lit.int .i64 k).wf = true) :
    DataW.Trod enc Try.prog W base sp hd 38 (.agg #[.string F, .string B, .string T, .int .i64 n, .int .i64 k]) (.agg [.lit (.string F.data.toList), .lit (.string B.data.toList), .lit (.string T.data.toList), .lit (.int .i64 n), .lit (.int .i64 k)]) [] := by
  obtain ⟨f0, f1, f2, f3, f4, hs, ⟨t0, t1, t2, t3, t4⟩, ⟨o0, o1, o2, o3, o4⟩⟩ := frame_fields
  obtain ⟨k0, k1, k2⟩ := frame_cells
  refine ⟨2, ?_⟩
  have h := trod_struct_mk (enc := enc) (w := W) (base := base) (spare := sp) (held := hd) (n := 1) (cs := [.string F, .string B, .string T, .int .i64 n, .int .i64 k])
    (xs := [(.lit (.string F.data.toList), []), (.lit (.string B.data.toList), []), (.lit (.string T.data.toList), []), (.lit (.int .i64 n), []), (.lit (.int .i64 k), [])]) hs (by rw [k0]; rfl)
    (by simp [t0, t1, t2, t3, t4, o0, o1, o2, o3, o4, k1, k2, DataW.trod, Try.underlying9, Try.underlying3, w0, w1, w2, w3, w4])
  simpa [Value.cells] using h
end
end Go.Proofs.Ytpckhcnlffddcaa

