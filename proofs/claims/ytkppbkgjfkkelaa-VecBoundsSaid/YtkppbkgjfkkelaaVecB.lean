/-
  Contracts of package vec and of the document's own answers: differences and products of vectors.
-/
import Derived.Test.YtkppbkgjfkkelaaVecA
namespace Go.Proofs.Ytkppbkgjfkkelaa
open Go.RowKit
theorem in3_ext {w : World} {A B C : Obj} {w1 : World} (x1 : Ext (((w.alloc A).alloc B).alloc C) w1) : Ext w w1 := ((((Ext.refl w).alloc _).alloc _).alloc _).trans x1
theorem size3 {w : World} {A B C : Obj} {w1 : World} (x1 : Ext (((w.alloc A).alloc B).alloc C) w1) : w.heap.size < w1.heap.size ∧ w.heap.size + 1 < w1.heap.size ∧ w.heap.size + 1 + 1 < w1.heap.size := by
  have := x1.size; simp at this; omega
theorem set3 {w w2 : World} (h : Ext w w2) (B : Nat) (hB : w.heap.size ≤ B) (a b c : Value) : Ext w (((w2.setCell ⟨B, 0, none⟩ a).setCell ⟨B, 1, none⟩ b).setCell ⟨B, 2, none⟩ c) :=
  Below.setCell (Below.setCell (Below.setCell h hB _) hB _) hB _
set_option maxHeartbeats 1000000 in
theorem vec_Sub (x y z u v t r s q : Int) (h : SubIs x y z u v t r s q) (w : World) :
    Calls Try.prog 12 #[.agg #[.int .i64 x, .int .i64 y, .int .i64 z], .agg #[.int .i64 u, .int .i64 v, .int .i64 t]] w fun e w' => e = .returned (.agg #[.int .i64 r, .int .i64 s, .int .i64 q]) ∧ Ext w w' := by
  rcases h with ⟨h1, h2, rfl, rfl, rfl⟩ | ⟨h, rfl, rfl, rfl⟩
  · have c1 := Lib.hid fun w => vec_Valid x y z true (by rw [decide_eq_true h1]) w
    have c2 := Lib.hid fun w => vec_Valid u v t true (by rw [decide_eq_true h2]) w
    obtain ⟨a1, a2, a3, a4, a5, a6⟩ := h1
    obtain ⟨b1, b2, b3, b4, b5, b6⟩ := h2
    go_enter Try.func12, Try.ntmps12
    go_wp2_with fail
    refine (c1.out _).mono ?_; rintro e w1 ⟨rfl, x1⟩
    obtain ⟨k1, f1⟩ := bcell x1
    obtain ⟨z1, z2, z3⟩ := size3 x1
    have X1 := Lib.hid (in3_ext x1)
    clear x1
    go_wp2_with fail
    refine (c2.out _).mono ?_; rintro e w2 ⟨rfl, x2⟩
    obtain ⟨k2, f2⟩ := bcell x2
    have X2 := Lib.hid (X1.out.trans x2)
    clear x2
    go_wp2_with fail
    exact bodyPost_ret (v := .agg #[.int .i64 (x - u), .int .i64 (y - v), .int .i64 (z - t)]) (by simp [results, Try.results12, go_sem, *]) rfl ⟨rfl, set3 X2.out _ (by omega) _ _ _⟩
  · by_cases h1 : In3 65536 x y z
    · have h2 : ¬ In3 65536 u v t := fun e => h ⟨h1, e⟩
      have c1 := Lib.hid fun w => vec_Valid x y z true (by rw [decide_eq_true h1]) w
      have c2 := Lib.hid fun w => vec_Valid u v t false (by rw [decide_eq_false h2]) w
      clear h h1 h2
      go_enter Try.func12, Try.ntmps12
      go_wp2_with fail
      refine (c1.out _).mono ?_; rintro e w1 ⟨rfl, x1⟩
      obtain ⟨k1, f1⟩ := bcell x1
      obtain ⟨z1, z2, z3⟩ := size3 x1
      have X1 := Lib.hid (in3_ext x1)
      clear x1
      go_wp2_with fail
      refine (c2.out _).mono ?_; rintro e w2 ⟨rfl, x2⟩
      obtain ⟨k2, f2⟩ := bcell x2
      have X2 := Lib.hid (X1.out.trans x2)
      clear x2
      go_wp2_with fail
      exact bodyPost_ret (v := .agg #[.int .i64 0, .int .i64 0, .int .i64 0]) (by simp [results, Try.results12, go_sem, *]) rfl ⟨rfl, set3 X2.out _ (by omega) _ _ _⟩
    · have c1 := Lib.hid fun w => vec_Valid x y z false (by rw [decide_eq_false h1]) w
      clear h h1
      go_enter Try.func12, Try.ntmps12
      go_wp2_with fail
      refine (c1.out _).mono ?_; rintro e w1 ⟨rfl, x1⟩
      obtain ⟨k1, f1⟩ := bcell x1
      obtain ⟨z1, z2, z3⟩ := size3 x1
      have X1 := Lib.hid (in3_ext x1)
      clear x1
      go_wp2_with fail
      exact bodyPost_ret (v := .agg #[.int .i64 0, .int .i64 0, .int .i64 0]) (by simp [results, Try.results12, go_sem, *]) rfl ⟨rfl, set3 X1.out _ (by omega) _ _ _⟩
set_option maxHeartbeats 1000000 in
theorem additiveref04_Sub (x y z u v t r s q : Int) (h : SubIs x y z u v t r s q) (w : World) :
    Calls Try.prog 13 #[.agg #[.int .i64 x, .int .i64 y, .int .i64 z], .agg #[.int .i64 u, .int .i64 v, .int .i64 t]] w fun e w' => e = .returned (.agg #[.int .i64 r, .int .i64 s, .int .i64 q]) ∧ Ext w w' := by
  rcases h with ⟨h1, h2, rfl, rfl, rfl⟩ | ⟨h, rfl, rfl, rfl⟩
  · have c1 := Lib.hid fun w => additiveref04_Valid x y z true (by rw [decide_eq_true h1]) w
    have c2 := Lib.hid fun w => additiveref04_Valid u v t true (by rw [decide_eq_true h2]) w
    obtain ⟨a1, a2, a3, a4, a5, a6⟩ := h1
    obtain ⟨b1, b2, b3, b4, b5, b6⟩ := h2
    go_enter Try.func13, Try.ntmps13
    go_wp2_with fail
    refine (c1.out _).mono ?_; rintro e w1 ⟨rfl, x1⟩
    obtain ⟨k1, f1⟩ := bcell x1
    obtain ⟨z1, z2, z3⟩ := size3 x1
    have X1 := Lib.hid (in3_ext x1)
    clear x1
    go_wp2_with fail
    refine (c2.out _).mono ?_; rintro e w2 ⟨rfl, x2⟩
    obtain ⟨k2, f2⟩ := bcell x2
    have X2 := Lib.hid (X1.out.trans x2)
    clear x2
    go_wp2_with fail
    exact bodyPost_ret (v := .agg #[.int .i64 (x - u), .int .i64 (y - v), .int .i64 (z - t)]) (by simp [results, Try.results13, go_sem, *]) rfl ⟨rfl, set3 X2.out _ (by omega) _ _ _⟩
  · by_cases h1 : In3 65536 x y z
    · have h2 : ¬ In3 65536 u v t := fun e => h ⟨h1, e⟩
      have c1 := Lib.hid fun w => additiveref04_Valid x y z true (by rw [decide_eq_true h1]) w
      have c2 := Lib.hid fun w => additiveref04_Valid u v t false (by rw [decide_eq_false h2]) w
      clear h h1 h2
      go_enter Try.func13, Try.ntmps13
      go_wp2_with fail
      refine (c1.out _).mono ?_; rintro e w1 ⟨rfl, x1⟩
      obtain ⟨k1, f1⟩ := bcell x1
      obtain ⟨z1, z2, z3⟩ := size3 x1
      have X1 := Lib.hid (in3_ext x1)
      clear x1
      go_wp2_with fail
      refine (c2.out _).mono ?_; rintro e w2 ⟨rfl, x2⟩
      obtain ⟨k2, f2⟩ := bcell x2
      have X2 := Lib.hid (X1.out.trans x2)
      clear x2
      go_wp2_with fail
      exact bodyPost_ret (v := .agg #[.int .i64 0, .int .i64 0, .int .i64 0]) (by simp [results, Try.results13, go_sem, *]) rfl ⟨rfl, set3 X2.out _ (by omega) _ _ _⟩
    · have c1 := Lib.hid fun w => additiveref04_Valid x y z false (by rw [decide_eq_false h1]) w
      clear h h1
      go_enter Try.func13, Try.ntmps13
      go_wp2_with fail
      refine (c1.out _).mono ?_; rintro e w1 ⟨rfl, x1⟩
      obtain ⟨k1, f1⟩ := bcell x1
      obtain ⟨z1, z2, z3⟩ := size3 x1
      have X1 := Lib.hid (in3_ext x1)
      clear x1
      go_wp2_with fail
      exact bodyPost_ret (v := .agg #[.int .i64 0, .int .i64 0, .int .i64 0]) (by simp [results, Try.results13, go_sem, *]) rfl ⟨rfl, set3 X1.out _ (by omega) _ _ _⟩
set_option maxHeartbeats 1000000 in
theorem vec_Cross (x y z u v t r s q : Int) (h : CrossIs x y z u v t r s q) (w : World) :
    Calls Try.prog 9 #[.agg #[.int .i64 x, .int .i64 y, .int .i64 z], .agg #[.int .i64 u, .int .i64 v, .int .i64 t]] w fun e w' => e = .returned (.agg #[.int .i64 r, .int .i64 s, .int .i64 q]) ∧ Ext w w' := by
  rcases h with ⟨h1, h2, rfl, rfl, rfl⟩ | ⟨h, rfl, rfl, rfl⟩
  · have c1 := Lib.hid fun w => vec_within x y z 131072 (by omega) (by omega) true (by rw [decide_eq_true h1]) w
    have c2 := Lib.hid fun w => vec_within u v t 131072 (by omega) (by omega) true (by rw [decide_eq_true h2]) w
    obtain ⟨a1, a2, a3, a4, a5, a6⟩ := h1
    obtain ⟨b1, b2, b3, b4, b5, b6⟩ := h2
    have m0 := mul_in (k := 131072) (m := 131072) a3 a4 b5 b6
    have m1 := mul_in (k := 131072) (m := 131072) a5 a6 b3 b4
    have m2 := mul_in (k := 131072) (m := 131072) a5 a6 b1 b2
    have m3 := mul_in (k := 131072) (m := 131072) a1 a2 b5 b6
    have m4 := mul_in (k := 131072) (m := 131072) a1 a2 b3 b4
    have m5 := mul_in (k := 131072) (m := 131072) a3 a4 b1 b2
    go_enter Try.func9, Try.ntmps9
    go_wp2_with fail
    refine (c1.out _).mono ?_; rintro e w1 ⟨rfl, x1⟩
    obtain ⟨k1, f1⟩ := bcell x1
    obtain ⟨z1, z2, z3⟩ := size3 x1
    have X1 := Lib.hid (in3_ext x1)
    clear x1
    go_wp2_with fail
    refine (c2.out _).mono ?_; rintro e w2 ⟨rfl, x2⟩
    obtain ⟨k2, f2⟩ := bcell x2
    have X2 := Lib.hid (X1.out.trans x2)
    clear x2
    go_wp2_with fail
    exact bodyPost_ret (v := .agg #[.int .i64 (y * t - z * v), .int .i64 (z * u - x * t), .int .i64 (x * v - y * u)]) (by simp [results, Try.results9, go_sem, *]) rfl ⟨rfl, set3 X2.out _ (by omega) _ _ _⟩
  · by_cases h1 : In3 131072 x y z
    · have h2 : ¬ In3 131072 u v t := fun e => h ⟨h1, e⟩
      have c1 := Lib.hid fun w => vec_within x y z 131072 (by omega) (by omega) true (by rw [decide_eq_true h1]) w
      have c2 := Lib.hid fun w => vec_within u v t 131072 (by omega) (by omega) false (by rw [decide_eq_false h2]) w
      clear h h1 h2
      go_enter Try.func9, Try.ntmps9
      go_wp2_with fail
      refine (c1.out _).mono ?_; rintro e w1 ⟨rfl, x1⟩
      obtain ⟨k1, f1⟩ := bcell x1
      obtain ⟨z1, z2, z3⟩ := size3 x1
      have X1 := Lib.hid (in3_ext x1)
      clear x1
      go_wp2_with fail
      refine (c2.out _).mono ?_; rintro e w2 ⟨rfl, x2⟩
      obtain ⟨k2, f2⟩ := bcell x2
      have X2 := Lib.hid (X1.out.trans x2)
      clear x2
      go_wp2_with fail
      exact bodyPost_ret (v := .agg #[.int .i64 0, .int .i64 0, .int .i64 0]) (by simp [results, Try.results9, go_sem, *]) rfl ⟨rfl, set3 X2.out _ (by omega) _ _ _⟩
    · have c1 := Lib.hid fun w => vec_within x y z 131072 (by omega) (by omega) false (by rw [decide_eq_false h1]) w
      clear h h1
      go_enter Try.func9, Try.ntmps9
      go_wp2_with fail
      refine (c1.out _).mono ?_; rintro e w1 ⟨rfl, x1⟩
      obtain ⟨k1, f1⟩ := bcell x1
      obtain ⟨z1, z2, z3⟩ := size3 x1
      have X1 := Lib.hid (in3_ext x1)
      clear x1
      go_wp2_with fail
      exact bodyPost_ret (v := .agg #[.int .i64 0, .int .i64 0, .int .i64 0]) (by simp [results, Try.results9, go_sem, *]) rfl ⟨rfl, set3 X1.out _ (by omega) _ _ _⟩
set_option maxHeartbeats 1000000 in
theorem additiveref04_Cross (x y z u v t r s q : Int) (h : CrossIs x y z u v t r s q) (w : World) :
    Calls Try.prog 14 #[.agg #[.int .i64 x, .int .i64 y, .int .i64 z], .agg #[.int .i64 u, .int .i64 v, .int .i64 t]] w fun e w' => e = .returned (.agg #[.int .i64 r, .int .i64 s, .int .i64 q]) ∧ Ext w w' := by
  rcases h with ⟨h1, h2, rfl, rfl, rfl⟩ | ⟨h, rfl, rfl, rfl⟩
  · have c1 := Lib.hid fun w => additiveref04_small x y z true (by rw [decide_eq_true h1]) w
    have c2 := Lib.hid fun w => additiveref04_small u v t true (by rw [decide_eq_true h2]) w
    obtain ⟨a1, a2, a3, a4, a5, a6⟩ := h1
    obtain ⟨b1, b2, b3, b4, b5, b6⟩ := h2
    have m0 := mul_in (k := 131072) (m := 131072) a3 a4 b5 b6
    have m1 := mul_in (k := 131072) (m := 131072) a5 a6 b3 b4
    have m2 := mul_in (k := 131072) (m := 131072) a5 a6 b1 b2
    have m3 := mul_in (k := 131072) (m := 131072) a1 a2 b5 b6
    have m4 := mul_in (k := 131072) (m := 131072) a1 a2 b3 b4
    have m5 := mul_in (k := 131072) (m := 131072) a3 a4 b1 b2
    go_enter Try.func14, Try.ntmps14
    go_wp2_with fail
    refine (c1.out _).mono ?_; rintro e w1 ⟨rfl, x1⟩
    obtain ⟨k1, f1⟩ := bcell x1
    obtain ⟨z1, z2, z3⟩ := size3 x1
    have X1 := Lib.hid (in3_ext x1)
    clear x1
    go_wp2_with fail
    refine (c2.out _).mono ?_; rintro e w2 ⟨rfl, x2⟩
    obtain ⟨k2, f2⟩ := bcell x2
    have X2 := Lib.hid (X1.out.trans x2)
    clear x2
    go_wp2_with fail
    exact bodyPost_ret (v := .agg #[.int .i64 (y * t - z * v), .int .i64 (z * u - x * t), .int .i64 (x * v - y * u)]) (by simp [results, Try.results14, go_sem, *]) rfl ⟨rfl, set3 X2.out _ (by omega) _ _ _⟩
  · by_cases h1 : In3 131072 x y z
    · have h2 : ¬ In3 131072 u v t := fun e => h ⟨h1, e⟩
      have c1 := Lib.hid fun w => additiveref04_small x y z true (by rw [decide_eq_true h1]) w
      have c2 := Lib.hid fun w => additiveref04_small u v t false (by rw [decide_eq_false h2]) w
      clear h h1 h2
      go_enter Try.func14, Try.ntmps14
      go_wp2_with fail
      refine (c1.out _).mono ?_; rintro e w1 ⟨rfl, x1⟩
      obtain ⟨k1, f1⟩ := bcell x1
      obtain ⟨z1, z2, z3⟩ := size3 x1
      have X1 := Lib.hid (in3_ext x1)
      clear x1
      go_wp2_with fail
      refine (c2.out _).mono ?_; rintro e w2 ⟨rfl, x2⟩
      obtain ⟨k2, f2⟩ := bcell x2
      have X2 := Lib.hid (X1.out.trans x2)
      clear x2
      go_wp2_with fail
      exact bodyPost_ret (v := .agg #[.int .i64 0, .int .i64 0, .int .i64 0]) (by simp [results, Try.results14, go_sem, *]) rfl ⟨rfl, set3 X2.out _ (by omega) _ _ _⟩
    · have c1 := Lib.hid fun w => additiveref04_small x y z false (by rw [decide_eq_false h1]) w
      clear h h1
      go_enter Try.func14, Try.ntmps14
      go_wp2_with fail
      refine (c1.out _).mono ?_; rintro e w1 ⟨rfl, x1⟩
      obtain ⟨k1, f1⟩ := bcell x1
      obtain ⟨z1, z2, z3⟩ := size3 x1
      have X1 := Lib.hid (in3_ext x1)
      clear x1
      go_wp2_with fail
      exact bodyPost_ret (v := .agg #[.int .i64 0, .int .i64 0, .int .i64 0]) (by simp [results, Try.results14, go_sem, *]) rfl ⟨rfl, set3 X1.out _ (by omega) _ _ _⟩
end Go.Proofs.Ytkppbkgjfkkelaa

