/-
  The argument of VecLinear, a struct of four vectors by value: opened, and shut.
-/
import Derived.Test.YtkppbkgjfkkelaaLawLin
import Derived.Test.YtkppbkgjfkkelaaVecAw
import Derived.ProofKit
import Derived.ChangeMaps5
import Derived.Lib.SmallJoins
namespace Go.Proofs.Ytkppbkgjfkkelaa
open Go.Joins Go.ChangeShapes Go.WideShapes Go.ChangeAt Go.RowKit Go.ChangeMaps
theorem row_VecLinear (x y z u v t a b c d1 d2 d3 : Int) (w : World) : Calls Try.prog 5 #[.agg #[.int .i64 x, .int .i64 y, .int .i64 z, .int .i64 u, .int .i64 v, .int .i64 t, .int .i64 a, .int .i64 b, .int .i64 c, .int .i64 d1, .int .i64 d2, .int .i64 d3]] w fun e w' => e = .returned (.bool true) ∧ Ext w w' := law_VecLinear x y z u v t a b c d1 d2 d3 law_awake4 w
section
variable {H : Type} {enc : TypeId × Value → H} {W : World} {base : Nat} {sp : Nat → Bool} {hd : Bool}
theorem vec_fields : ∃ f0 f1 f2 : Field, Try.prog.underlying 23 = some (.struct #[f0, f1, f2]) ∧ (f0.type = 3 ∧ f1.type = 3 ∧ f2.type = 3) ∧ (f0.offset = 0 ∧ f1.offset = 1 ∧ f2.offset = 2) := by
  refine ⟨⟨"X", 3, 0, false, "", "", 0⟩, ⟨"Y", 3, 1, false, "", "", 8⟩, ⟨"Z", 3, 2, false, "", "", 16⟩, by kernel_rfl, ?_, ?_⟩ <;> simp
theorem four_fields : ∃ f0 f1 f2 f3 : Field, Try.prog.underlying 32 = some (.struct #[f0, f1, f2, f3]) ∧ (f0.type = 23 ∧ f1.type = 23 ∧ f2.type = 23 ∧ f3.type = 23) ∧ (f0.offset = 0 ∧ f1.offset = 3 ∧ f2.offset = 6 ∧ f3.offset = 9) := by
  refine ⟨⟨"A", 23, 0, false, "", "", 0⟩, ⟨"B", 23, 3, false, "", "", 24⟩, ⟨"C", 23, 6, false, "", "", 48⟩, ⟨"D", 23, 9, false, "", "", 72⟩, by kernel_rfl, ?_, ?_⟩ <;> simp
theorem four_cells : Try.prog.cellsOf 32 = 12 ∧ Try.prog.cellsOf 23 = 3 ∧ Try.prog.cellsOf 3 = 1 := ⟨by kernel_rfl, by kernel_rfl, by kernel_rfl⟩
/-- Three cells that read as a vector. -/
theorem three_ints {fuel : Nat} {c0 c1 c2 : Value} {x : DataW H × List MemPlace} (h : DataW.trod enc Try.prog W base sp hd fuel 23 [c0, c1, c2] = some x) :
    ∃ a b c : Int, c0 = .int .i64 a ∧ c1 = .int .i64 b ∧ c2 = .int .i64 c ∧ x = (.agg [.lit (.int .i64 a), .lit (.int .i64 b), .lit (.int .i64 c)], []) ∧ (Lit.int .i64 a).wf = true ∧ (Lit.int .i64 b).wf = true ∧ (Lit.int .i64 c).wf = true := by
  obtain ⟨f0, f1, f2, hs, ⟨t0, t1, t2⟩, ⟨o0, o1, o2⟩⟩ := vec_fields
  obtain ⟨_, _, k2⟩ := four_cells
  obtain ⟨xs, m, _, hx, _, hxl, hg⟩ := DataW.trod_struct hs h
  match xs, hxl with
  | [y0, y1, y2], _ =>
    have g0 := hg 0 f0 rfl
    have g1 := hg 1 f1 rfl
    have g2 := hg 2 f2 rfl
    simp only [t0, t1, t2, o0, o1, o2, k2] at g0 g1 g2
    obtain ⟨a, e0, x0, w0⟩ := DataW.trod_int Try.underlying3 g0
    obtain ⟨b, e1, x1, w1⟩ := DataW.trod_int Try.underlying3 g1
    obtain ⟨c, e2, x2, w2⟩ := DataW.trod_int Try.underlying3 g2
    simp at e0 e1 e2
    subst e0 e1 e2 x0 x1 x2
    simp at hx
    exact ⟨a, b, c, rfl, rfl, rfl, hx, w0, w1, w2⟩
theorem three_mk (W : World) {a b c : Int} (w0 : (Lit.int .i64 a).wf = true) (w1 : (Lit.int .i64 b).wf = true) (w2 : (Lit.int .i64 c).wf = true) :
    DataW.trod enc Try.prog W base sp hd 2 23 [.int .i64 a, .int .i64 b, .int .i64 c] = some (.agg [.lit (.int .i64 a), .lit (.int .i64 b), .lit (.int .i64 c)], []) := by
  obtain ⟨f0, f1, f2, hs, ⟨t0, t1, t2⟩, ⟨o0, o1, o2⟩⟩ := vec_fields
  obtain ⟨_, k1, k2⟩ := four_cells
  have h := trod_struct_mk (enc := enc) (w := W) (base := base) (spare := sp) (held := hd) (n := 1) (cs := [.int .i64 a, .int .i64 b, .int .i64 c]) (xs := [(.lit (.int .i64 a), []), (.lit (.int .i64 b), []), (.lit (.int .i64 c), [])]) hs (by rw [k1]; rfl)
    (by simp [t0, t1, t2, o0, o1, o2, k2, DataW.trod, Try.underlying3, w0, w1, w2])
  simpa using h
theorem open_four {r : Reach} {b0 : Nat} {val : Value} {d : DataW H} {p : List MemPlace} (hv : Value.okWide Try.prog W r b0 32 val) (h : DataW.Trod enc Try.prog W base sp hd 32 val d p) :
    ∃ x y z u v t a b c d1 d2 d3 : Int, val = .agg #[.int .i64 x, .int .i64 y, .int .i64 z, .int .i64 u, .int .i64 v, .int .i64 t, .int .i64 a, .int .i64 b, .int .i64 c, .int .i64 d1, .int .i64 d2, .int .i64 d3] ∧ d = (.agg [.agg [.lit (.int .i64 x), .lit (.int .i64 y), .lit (.int .i64 z)], .agg [.lit (.int .i64 u), .lit (.int .i64 v), .lit (.int .i64 t)], .agg [.lit (.int .i64 a), .lit (.int .i64 b), .lit (.int .i64 c)], .agg [.lit (.int .i64 d1), .lit (.int .i64 d2), .lit (.int .i64 d3)]]) ∧ p = [] ∧ (Lit.int .i64 x).wf = true ∧ (Lit.int .i64 y).wf = true ∧ (Lit.int .i64 z).wf = true ∧ (Lit.int .i64 u).wf = true ∧ (Lit.int .i64 v).wf = true ∧ (Lit.int .i64 t).wf = true ∧ (Lit.int .i64 a).wf = true ∧ (Lit.int .i64 b).wf = true ∧ (Lit.int .i64 c).wf = true ∧ (Lit.int .i64 d1).wf = true ∧ (Lit.int .i64 d2).wf = true ∧ (Lit.int .i64 d3).wf = true := by
  obtain ⟨f0, f1, f2, f3, hs, ⟨t0, t1, t2, t3⟩, ⟨o0, o1, o2, o3⟩⟩ := four_fields
  obtain ⟨k0, k1, _⟩ := four_cells
  obtain ⟨⟨l⟩, rfl, hsz⟩ := okWide_struct hs hv
  rw [k0] at hsz
  obtain ⟨fuel, hf⟩ := h
  obtain ⟨xs, m, _, hx, _, hxl, hg⟩ := DataW.trod_struct hs hf
  match l, hsz, xs, hxl with
  | [c0, c1, c2, c3, c4, c5, c6, c7, c8, c9, c10, c11], _, [y0, y1, y2, y3], _ =>
    have g0 := hg 0 f0 rfl
    have g1 := hg 1 f1 rfl
    have g2 := hg 2 f2 rfl
    have g3 := hg 3 f3 rfl
    simp only [t0, t1, t2, t3, o0, o1, o2, o3, k1] at g0 g1 g2 g3
    obtain ⟨x, y, z, rfl, rfl, rfl, x0, w0, w1, w2⟩ := three_ints (c0 := c0) (c1 := c1) (c2 := c2) (by simpa [Value.cells] using g0)
    obtain ⟨u, v, t, rfl, rfl, rfl, x1, w3, w4, w5⟩ := three_ints (c0 := c3) (c1 := c4) (c2 := c5) (by simpa [Value.cells] using g1)
    obtain ⟨a, b, c, rfl, rfl, rfl, x2, w6, w7, w8⟩ := three_ints (c0 := c6) (c1 := c7) (c2 := c8) (by simpa [Value.cells] using g2)
    obtain ⟨d1, d2, d3, rfl, rfl, rfl, x3, w9, w10, w11⟩ := three_ints (c0 := c9) (c1 := c10) (c2 := c11) (by simpa [Value.cells] using g3)
    subst x0 x1 x2 x3
    simp at hx
    exact ⟨x, y, z, u, v, t, a, b, c, d1, d2, d3, rfl, hx.1, hx.2, w0, w1, w2, w3, w4, w5, w6, w7, w8, w9, w10, w11⟩
theorem shut_four (W : World) {x y z u v t a b c d1 d2 d3 : Int} (w0 : (Lit.int .i64 x).wf = true) (w1 : (Lit.int .i64 y).wf = true) (w2 : (Lit.int .i64 z).wf = true) (w3 : (Lit.int .i64 u).wf = true) (w4 : (Lit.int .i64 v).wf = true) (w5 : (Lit.int .i64 t).wf = true) (w6 : (Lit.int .i64 a).wf = true) (w7 : (Lit.int .i64 b).wf = true) (w8 : (Lit.int .i64 c).wf = true) (w9 : (Lit.int .i64 d1).wf = true) (w10 : (Lit.int .i64 d2).wf = true) (w11 : (Lit.int .i64 d3).wf = true) :
    DataW.Trod enc Try.prog W base sp hd 32 (.agg #[.int .i64 x, .int .i64 y, .int .i64 z, .int .i64 u, .int .i64 v, .int .i64 t, .int .i64 a, .int .i64 b, .int .i64 c, .int .i64 d1, .int .i64 d2, .int .i64 d3]) (.agg [.agg [.lit (.int .i64 x), .lit (.int .i64 y), .lit (.int .i64 z)], .agg [.lit (.int .i64 u), .lit (.int .i64 v), .lit (.int .i64 t)], .agg [.lit (.int .i64 a), .lit (.int .i64 b), .lit (.int .i64 c)], .agg [.lit (.int .i64 d1), .lit (.int .i64 d2), .lit (.int .i64 d3)]]) [] := by
  obtain ⟨f0, f1, f2, f3, hs, ⟨t0, t1, t2, t3⟩, ⟨o0, o1, o2, o3⟩⟩ := four_fields
  obtain ⟨k0, k1, _⟩ := four_cells
  have m0 := three_mk (enc := enc) (base := base) (sp := sp) (hd := hd) W w0 w1 w2
  have m1 := three_mk (enc := enc) (base := base) (sp := sp) (hd := hd) W w3 w4 w5
  have m2 := three_mk (enc := enc) (base := base) (sp := sp) (hd := hd) W w6 w7 w8
  have m3 := three_mk (enc := enc) (base := base) (sp := sp) (hd := hd) W w9 w10 w11
  refine ⟨3, ?_⟩
  have h := trod_struct_mk (enc := enc) (w := W) (base := base) (spare := sp) (held := hd) (n := 2) (cs := [.int .i64 x, .int .i64 y, .int .i64 z, .int .i64 u, .int .i64 v, .int .i64 t, .int .i64 a, .int .i64 b, .int .i64 c, .int .i64 d1, .int .i64 d2, .int .i64 d3])
    (xs := [(.agg [.lit (.int .i64 x), .lit (.int .i64 y), .lit (.int .i64 z)], []), (.agg [.lit (.int .i64 u), .lit (.int .i64 v), .lit (.int .i64 t)], []), (.agg [.lit (.int .i64 a), .lit (.int .i64 b), .lit (.int .i64 c)], []), (.agg [.lit (.int .i64 d1), .lit (.int .i64 d2), .lit (.int .i64 d3)], [])]) hs (by rw [k0]; rfl)
    (by simp [t0, t1, t2, t3, o0, o1, o2, o3, k1, m0, m1, m2, m3])
  simpa [Value.cells] using h
end
end Go.Proofs.Ytkppbkgjfkkelaa

