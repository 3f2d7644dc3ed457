/-
  Contracts of both Bounds: the calls.
-/
import Derived.Test.YtkppbkgjfkkelaaVecBd
import Derived.RegionTactic
namespace Go.Proofs.Ytkppbkgjfkkelaa
open Go.RowKit
theorem set2 {w w1 : World} (h : Ext w w1) (a b : Nat) (ha : w.heap.size ≤ a) (hb : w.heap.size ≤ b) (i j : Nat) (u v : Value) : Ext w ((w1.setCell ⟨a, i, none⟩ u).setCell ⟨b, j, none⟩ v) :=
  Below.setCell (Below.setCell h ha _) hb _
theorem size5 {w : World} {A B C D E : Obj} {w1 : World} (x1 : Ext (((((w.alloc A).alloc B).alloc C).alloc D).alloc E) w1) : w.heap.size < w1.heap.size ∧ w.heap.size + 1 < w1.heap.size ∧ w.heap.size + 1 + 1 < w1.heap.size ∧ w.heap.size + 1 + 1 + 1 < w1.heap.size ∧ w.heap.size + 1 + 1 + 1 + 1 < w1.heap.size := by
  have := x1.size; simp at this; omega
set_option maxHeartbeats 4000000 in
theorem vec_Bounds (b o n c : Nat) (l : List Tri3) (v0 : Tri3) (h0 : l[0]? = some v0) (hl : l.length = n) (hm : (n : Int) ≤ 140737488355328) (w : World) (hv : VS w b o l) :
    Calls Try.prog 23 #[.slice (some ⟨b, o, none⟩) n c] w fun e w' => e = .returned (.tuple #[.agg #[.int .i64 (mnF sx (sx v0) l), .int .i64 (mnF sy (sy v0) l), .int .i64 (mnF sz (sz v0) l)], .agg #[.int .i64 (mxF sx (sx v0) l), .int .i64 (mxF sy (sy v0) l), .int .i64 (mxF sz (sz v0) l)], .bool true]) ∧ Ext w w' := by
  have hn : 0 < n := by
    rcases Nat.eq_zero_or_pos n with h | h
    · rw [List.length_eq_zero_iff.1 (hl.trans h)] at h0; cases h0
    · exact h
  have n0 : ((n : Int) == 0) = false := beq_f (by omega)
  have E5 : ∀ A B C D E : Obj, Ext w (((((w.alloc A).alloc B).alloc C).alloc D).alloc E) := fun A B C D E => (((((Ext.refl w).alloc A).alloc B).alloc C).alloc D).alloc E
  have H0 := Lib.hid h0; have HL := Lib.hid hl; have HV := Lib.hid hv; have EE := Lib.hid E5
  clear h0 hl hv E5
  go_enter Try.func23, Try.ntmps23
  go_wp2_with fail
  refine (vec_Bounds1_2 b o n c w.heap.size l v0 H0.out HL.out hm _ (HV.out.ext (by exact EE.out _ _ _ _ _)) (by go_simp)).mono ?_; rintro e w1 ⟨rfl, x1⟩
  obtain ⟨k1, f1⟩ := bcell x1
  obtain ⟨z1, z2, z3, z4, z5⟩ := size5 x1
  have X1 := Lib.hid ((EE.out _ _ _ _ _).trans x1)
  clear x1
  go_wp2_with fail
  have X2 := Lib.hid (set2 X1.out (w.heap.size + 1 + 1 + 1) (w.heap.size + 1 + 1 + 1 + 1) (by omega) (by omega) 0 0 (.int .i64 (mnF sx (sx v0) l)) (.int .i64 (mxF sx (sx v0) l)))
  refine (vec_Bounds1_3 b o n c w.heap.size l v0 H0.out HL.out hm _ (HV.out.ext (by exact X2.out)) (by go_simp)).mono ?_; rintro e w2 ⟨rfl, x2⟩
  obtain ⟨k2, f2⟩ := bcell x2
  have y5 := Nat.lt_of_lt_of_le z5 (show w1.heap.size ≤ w2.heap.size by have := x2.size; simpa [World.setCell] using this)
  have y4 : w.heap.size + 1 + 1 + 1 < w2.heap.size := by omega
  have y3 : w.heap.size + 1 + 1 < w2.heap.size := by omega
  have y2 : w.heap.size + 1 < w2.heap.size := by omega
  have y1 : w.heap.size < w2.heap.size := by omega
  have X3 := Lib.hid (X2.out.trans x2)
  clear x2
  go_wp2_with fail
  have X4 := Lib.hid (set2 X3.out (w.heap.size + 1 + 1 + 1) (w.heap.size + 1 + 1 + 1 + 1) (by omega) (by omega) 1 1 (.int .i64 (mnF sy (sy v0) l)) (.int .i64 (mxF sy (sy v0) l)))
  refine (vec_Bounds1_4 b o n c w.heap.size l v0 H0.out HL.out hm _ (HV.out.ext (by exact X4.out)) (by go_simp)).mono ?_; rintro e w3 ⟨rfl, x3⟩
  obtain ⟨k3, f3⟩ := bcell x3
  have u5 := Nat.lt_of_lt_of_le y5 (show w2.heap.size ≤ w3.heap.size by have := x3.size; simpa [World.setCell] using this)
  have u4 : w.heap.size + 1 + 1 + 1 < w3.heap.size := by omega
  have u3 : w.heap.size + 1 + 1 < w3.heap.size := by omega
  have u2 : w.heap.size + 1 < w3.heap.size := by omega
  have u1 : w.heap.size < w3.heap.size := by omega
  have X5 := Lib.hid (X4.out.trans x3)
  clear x3
  go_wp2_with fail
  go_region
  go_wp2_with fail
  have X6 := set2 X5.out (w.heap.size + 1 + 1 + 1) (w.heap.size + 1 + 1 + 1 + 1) (by omega) (by omega) 2 2 (.int .i64 (mnF sz (sz v0) l)) (.int .i64 (mxF sz (sz v0) l))
  have X7 := set3 X6 (w.heap.size + 1) (by omega) (.int .i64 (mnF sx (sx v0) l)) (.int .i64 (mnF sy (sy v0) l)) (.int .i64 (mnF sz (sz v0) l))
  have X8 := Lib.hid (Ext.drew (set3 X7 (w.heap.size + 1 + 1) (by omega) (.int .i64 (mxF sx (sx v0) l)) (.int .i64 (mxF sy (sy v0) l)) (.int .i64 (mxF sz (sz v0) l))))
  clear X6 X7
  exact bodyPost_ret (v := .tuple #[.agg #[.int .i64 (mnF sx (sx v0) l), .int .i64 (mnF sy (sy v0) l), .int .i64 (mnF sz (sz v0) l)], .agg #[.int .i64 (mxF sx (sx v0) l), .int .i64 (mxF sy (sy v0) l), .int .i64 (mxF sz (sz v0) l)], .bool true]) (by simp [results, Try.results23, go_sem, *]) rfl ⟨rfl, X8.out⟩
end Go.Proofs.Ytkppbkgjfkkelaa

