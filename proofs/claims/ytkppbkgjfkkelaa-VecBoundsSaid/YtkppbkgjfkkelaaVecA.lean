/-
  Contracts of package vec and of the document's own answers: checks and orders of vectors.
-/
import Derived.Test.YtkppbkgjfkkelaaChecked
import Derived.Test.YtkppbkgjfkkelaaVecM
namespace Go.Proofs.Ytkppbkgjfkkelaa
open Go.RowKit
theorem vec_within (x y z k : Int) (k0 : 0 ≤ k) (k1 : k ≤ 1099511627776) (b : Bool) (hb : b = decide (In3 k x y z)) (w : World) :
    Calls Try.prog 27 #[.agg #[.int .i64 x, .int .i64 y, .int .i64 z], .int .i64 k] w fun e w' => e = .returned (.bool b) ∧ Ext w w' := by
  have HB := Lib.hid hb; clear hb
  go_enter Try.func27, Try.ntmps27
  go_wp2_with fail
  all_goals
    go_ret
    refine ⟨ret_b (Eq.symm ?_), (Ext.refl _).alloc _⟩
    rw [HB.out]
    first
    | exact decide_eq_false (by unfold In3; omega)
    | (rw [decide_eq_decide]; unfold In3; omega)
theorem vec_Valid (x y z : Int) (b : Bool) (hb : b = decide (In3 65536 x y z)) (w : World) :
    Calls Try.prog 10 #[.agg #[.int .i64 x, .int .i64 y, .int .i64 z]] w fun e w' => e = .returned (.bool b) ∧ Ext w w' := by
  have c := Lib.hid fun w => vec_within x y z 65536 (by omega) (by omega) b hb w
  clear hb
  go_enter Try.func10, Try.ntmps10
  go_wp2_with fail
  refine (c.out _).mono ?_; rintro e w1 ⟨rfl, h1⟩
  go_wp2_with fail
  go_ret
  exact ⟨rfl, ((Ext.refl _).alloc _).trans h1⟩
theorem vec_Less (x y z u v t : Int) (b : Bool) (hb : b = decide (Less3 x y z u v t)) (w : World) :
    Calls Try.prog 21 #[.agg #[.int .i64 x, .int .i64 y, .int .i64 z], .agg #[.int .i64 u, .int .i64 v, .int .i64 t]] w fun e w' => e = .returned (.bool b) ∧ Ext w w' := by
  have HB := Lib.hid hb; clear hb
  by_cases h1 : x = u
  · by_cases h2 : y = v
    · have d1 := bne_f h1
      have d2 := bne_f h2
      have H1 := Lib.hid h1; have H2 := Lib.hid h2
      clear h1 h2
      go_enter Try.func21, Try.ntmps21
      go_wp2_with fail
      go_ret
      refine ⟨ret_b (Eq.symm ?_), ((Ext.refl _).alloc _).alloc _⟩
      rw [HB.out, decide_eq_decide]
      have := H1.out; have := H2.out
      unfold Less3; omega
    · have d1 := bne_f h1
      have d2 := bne_t h2
      have H1 := Lib.hid h1; have H2 := Lib.hid h2
      clear h1 h2
      go_enter Try.func21, Try.ntmps21
      go_wp2_with fail
      go_ret
      refine ⟨ret_b (Eq.symm ?_), ((Ext.refl _).alloc _).alloc _⟩
      rw [HB.out, decide_eq_decide]
      have := H1.out; have := H2.out
      unfold Less3; omega
  · have d1 := bne_t h1
    have H1 := Lib.hid h1
    clear h1
    go_enter Try.func21, Try.ntmps21
    go_wp2_with fail
    go_ret
    refine ⟨ret_b (Eq.symm ?_), ((Ext.refl _).alloc _).alloc _⟩
    rw [HB.out, decide_eq_decide]
    have := H1.out
    unfold Less3; omega
theorem additiveref04_within (x y z k : Int) (k0 : 0 ≤ k) (k1 : k ≤ 1099511627776) (b : Bool) (hb : b = decide (In3 k x y z)) (w : World) :
    Calls Try.prog 28 #[.agg #[.int .i64 x, .int .i64 y, .int .i64 z], .int .i64 k] w fun e w' => e = .returned (.bool b) ∧ Ext w w' := by
  have HB := Lib.hid hb; clear hb
  go_enter Try.func28, Try.ntmps28
  go_wp2_with fail
  all_goals
    go_ret
    refine ⟨ret_b (Eq.symm ?_), (Ext.refl _).alloc _⟩
    rw [HB.out]
    first
    | exact decide_eq_false (by unfold In3; omega)
    | (rw [decide_eq_decide]; unfold In3; omega)
theorem additiveref04_Valid (x y z : Int) (b : Bool) (hb : b = decide (In3 65536 x y z)) (w : World) :
    Calls Try.prog 11 #[.agg #[.int .i64 x, .int .i64 y, .int .i64 z]] w fun e w' => e = .returned (.bool b) ∧ Ext w w' := by
  have c := Lib.hid fun w => additiveref04_within x y z 65536 (by omega) (by omega) b hb w
  clear hb
  go_enter Try.func11, Try.ntmps11
  go_wp2_with fail
  refine (c.out _).mono ?_; rintro e w1 ⟨rfl, h1⟩
  go_wp2_with fail
  go_ret
  exact ⟨rfl, ((Ext.refl _).alloc _).trans h1⟩
theorem additiveref04_Less (x y z u v t : Int) (b : Bool) (hb : b = decide (Less3 x y z u v t)) (w : World) :
    Calls Try.prog 22 #[.agg #[.int .i64 x, .int .i64 y, .int .i64 z], .agg #[.int .i64 u, .int .i64 v, .int .i64 t]] w fun e w' => e = .returned (.bool b) ∧ Ext w w' := by
  have HB := Lib.hid hb; clear hb
  by_cases h1 : x = u
  · by_cases h2 : y = v
    · have d1 := bne_f h1
      have d2 := bne_f h2
      have H1 := Lib.hid h1; have H2 := Lib.hid h2
      clear h1 h2
      go_enter Try.func22, Try.ntmps22
      go_wp2_with fail
      go_ret
      refine ⟨ret_b (Eq.symm ?_), ((Ext.refl _).alloc _).alloc _⟩
      rw [HB.out, decide_eq_decide]
      have := H1.out; have := H2.out
      unfold Less3; omega
    · have d1 := bne_f h1
      have d2 := bne_t h2
      have H1 := Lib.hid h1; have H2 := Lib.hid h2
      clear h1 h2
      go_enter Try.func22, Try.ntmps22
      go_wp2_with fail
      go_ret
      refine ⟨ret_b (Eq.symm ?_), ((Ext.refl _).alloc _).alloc _⟩
      rw [HB.out, decide_eq_decide]
      have := H1.out; have := H2.out
      unfold Less3; omega
  · have d1 := bne_t h1
    have H1 := Lib.hid h1
    clear h1
    go_enter Try.func22, Try.ntmps22
    go_wp2_with fail
    go_ret
    refine ⟨ret_b (Eq.symm ?_), ((Ext.refl _).alloc _).alloc _⟩
    rw [HB.out, decide_eq_decide]
    have := H1.out
    unfold Less3; omega
theorem additiveref04_small (x y z : Int) (b : Bool) (hb : b = decide (In3 131072 x y z)) (w : World) :
    Calls Try.prog 29 #[.agg #[.int .i64 x, .int .i64 y, .int .i64 z]] w fun e w' => e = .returned (.bool b) ∧ Ext w w' := by
  have c := Lib.hid fun w => additiveref04_within x y z 131072 (by omega) (by omega) b hb w
  clear hb
  go_enter Try.func29, Try.ntmps29
  go_wp2_with fail
  refine (c.out _).mono ?_; rintro e w1 ⟨rfl, h1⟩
  go_wp2_with fail
  go_ret
  exact ⟨rfl, ((Ext.refl _).alloc _).trans h1⟩
end Go.Proofs.Ytkppbkgjfkkelaa

