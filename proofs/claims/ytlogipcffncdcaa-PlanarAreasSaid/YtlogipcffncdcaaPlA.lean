/-
  Contracts of package planar and of the document's own answers: points, products, distances, turns.
-/
import Derived.Test.YtlogipcffncdcaaChecked
import Derived.Test.YtlogipcffncdcaaVecM
namespace Go.Proofs.Ytlogipcffncdcaa
open Go.RowKit
/-- A point whose coordinates are at most k in size. -/
def In2 (k x y : Int) : Prop := -k ≤ x ∧ x ≤ k ∧ -k ≤ y ∧ y ≤ k
instance (k x y : Int) : Decidable (In2 k x y) := inferInstanceAs (Decidable (_ ∧ _))
/-- r is what Cross answers. -/
def PCross (x y u v a b r : Int) : Prop := (In2 16777216 x y ∧ In2 16777216 u v ∧ In2 16777216 a b ∧ r = (u - x) * (b - y) - (v - y) * (a - x)) ∨ (¬ (In2 16777216 x y ∧ In2 16777216 u v ∧ In2 16777216 a b) ∧ r = 0)
theorem pcross_ex (x y u v a b : Int) : ∃ r, PCross x y u v a b r := by
  by_cases h : In2 16777216 x y ∧ In2 16777216 u v ∧ In2 16777216 a b
  · exact ⟨_, .inl ⟨h.1, h.2.1, h.2.2, rfl⟩⟩
  · exact ⟨_, .inr ⟨h, rfl⟩⟩
/-- r is what Dist2 answers. -/
def PDist (x y u v r : Int) : Prop := (In2 16777216 x y ∧ In2 16777216 u v ∧ r = (u - x) * (u - x) + (v - y) * (v - y)) ∨ (¬ (In2 16777216 x y ∧ In2 16777216 u v) ∧ r = 0)
theorem pdist_ex (x y u v : Int) : ∃ r, PDist x y u v r := by
  by_cases h : In2 16777216 x y ∧ In2 16777216 u v
  · exact ⟨_, .inl ⟨h.1, h.2, rfl⟩⟩
  · exact ⟨_, .inr ⟨h, rfl⟩⟩
theorem pext2 {w : World} {A B : Obj} {w1 : World} (x1 : Ext ((w.alloc A).alloc B) w1) : Ext w w1 := (((Ext.refl w).alloc _).alloc _).trans x1
theorem pext3 {w : World} {A B C : Obj} {w1 : World} (x1 : Ext (((w.alloc A).alloc B).alloc C) w1) : Ext w w1 := ((((Ext.refl w).alloc _).alloc _).alloc _).trans x1
theorem psize2 {w : World} {A B : Obj} {w1 : World} (x1 : Ext ((w.alloc A).alloc B) w1) : w.heap.size < w1.heap.size ∧ w.heap.size + 1 < w1.heap.size := by
  have := x1.size; simp at this; omega
theorem psize3 {w : World} {A B C : Obj} {w1 : World} (x1 : Ext (((w.alloc A).alloc B).alloc C) w1) : w.heap.size < w1.heap.size ∧ w.heap.size + 1 < w1.heap.size ∧ w.heap.size + 1 + 1 < w1.heap.size := by
  have := x1.size; simp at this; omega
theorem planar_Valid (x y : Int) (b : Bool) (hb : b = decide (In2 16777216 x y)) (w : World) :
    Calls Try.prog 15 #[.agg #[.int .i64 x, .int .i64 y]] w fun e w' => e = .returned (.bool b) ∧ Ext w w' := by
  have HB := Lib.hid hb; clear hb
  go_enter Try.func15, Try.ntmps15
  go_wp2_with fail
  all_goals
    go_ret
    refine ⟨ret_b (Eq.symm ?_), (Ext.refl _).alloc _⟩
    rw [HB.out]
    first
    | exact decide_eq_false (by unfold In2; omega)
    | (rw [decide_eq_decide]; unfold In2; omega)
set_option maxHeartbeats 2000000 in
theorem planar_Cross (x y u v a b r : Int) (h : PCross x y u v a b r) (w : World) :
    Calls Try.prog 17 #[.agg #[.int .i64 x, .int .i64 y], .agg #[.int .i64 u, .int .i64 v], .agg #[.int .i64 a, .int .i64 b]] w fun e w' => e = .returned (.int .i64 r) ∧ Ext w w' := by
  by_cases i1 : In2 16777216 x y
  · have c1 := Lib.hid fun w => planar_Valid x y true (by rw [decide_eq_true i1]) w
    by_cases i2 : In2 16777216 u v
    · have c2 := Lib.hid fun w => planar_Valid u v true (by rw [decide_eq_true i2]) w
      by_cases i3 : In2 16777216 a b
      · have c3 := Lib.hid fun w => planar_Valid a b true (by rw [decide_eq_true i3]) w
        obtain ⟨_, _, _, rfl⟩ | ⟨h, _⟩ := h
        case inr => exact absurd ⟨i1, i2, i3⟩ h
        obtain ⟨a1, a2, a3, a4⟩ := i1
        obtain ⟨b1, b2, b3, b4⟩ := i2
        obtain ⟨d1, d2, d3, d4⟩ := i3
        have m0 := mul_in (a := u - x) (b := b - y) (k := 33554432) (m := 33554432) (by omega) (by omega) (by omega) (by omega)
        have m1 := mul_in (a := v - y) (b := a - x) (k := 33554432) (m := 33554432) (by omega) (by omega) (by omega) (by omega)
        go_enter Try.func17, Try.ntmps17
        go_wp2_with fail
        refine (c1.out _).mono ?_; rintro e w1 ⟨rfl, x1⟩
        obtain ⟨k1, f1⟩ := bcell x1
        obtain ⟨z1, z2, z3⟩ := psize3 x1
        have X1 := Lib.hid (pext3 x1)
        clear x1
        go_wp2_with fail
        refine (c2.out _).mono ?_; rintro e w2 ⟨rfl, x2⟩
        obtain ⟨k2, f2⟩ := bcell x2
        have y1 := Nat.lt_of_lt_of_le z1 x2.size
        have y2 := Nat.lt_of_lt_of_le z2 x2.size
        have y3 := Nat.lt_of_lt_of_le z3 x2.size
        have X2 := Lib.hid (X1.out.trans x2)
        clear x2
        go_wp2_with fail
        refine (c3.out _).mono ?_; rintro e w3 ⟨rfl, x3⟩
        obtain ⟨k3, f3⟩ := bcell x3
        have X3 := Lib.hid (X2.out.trans x3)
        clear x3
        go_wp2_with fail
        go_ret
        exact ⟨rfl, X3.out⟩
      · have c3 := Lib.hid fun w => planar_Valid a b false (by rw [decide_eq_false i3]) w
        obtain rfl : r = 0 := h.elim (fun e => absurd e.2.2.1 i3) (·.2)
        clear h i1 i2 i3
        go_enter Try.func17, Try.ntmps17
        go_wp2_with fail
        refine (c1.out _).mono ?_; rintro e w1 ⟨rfl, x1⟩
        obtain ⟨k1, f1⟩ := bcell x1
        obtain ⟨z1, z2, z3⟩ := psize3 x1
        have X1 := Lib.hid (pext3 x1)
        clear x1
        go_wp2_with fail
        refine (c2.out _).mono ?_; rintro e w2 ⟨rfl, x2⟩
        obtain ⟨k2, f2⟩ := bcell x2
        have X2 := Lib.hid (X1.out.trans x2)
        clear x2
        go_wp2_with fail
        refine (c3.out _).mono ?_; rintro e w3 ⟨rfl, x3⟩
        have X3 := Lib.hid (X2.out.trans x3)
        clear x3
        go_wp2_with fail
        go_ret
        exact ⟨rfl, X3.out⟩
    · have c2 := Lib.hid fun w => planar_Valid u v false (by rw [decide_eq_false i2]) w
      obtain rfl : r = 0 := h.elim (fun e => absurd e.2.1 i2) (·.2)
      clear h i1 i2
      go_enter Try.func17, Try.ntmps17
      go_wp2_with fail
      refine (c1.out _).mono ?_; rintro e w1 ⟨rfl, x1⟩
      obtain ⟨k1, f1⟩ := bcell x1
      obtain ⟨z1, z2, z3⟩ := psize3 x1
      have X1 := Lib.hid (pext3 x1)
      clear x1
      go_wp2_with fail
      refine (c2.out _).mono ?_; rintro e w2 ⟨rfl, x2⟩
      have X2 := Lib.hid (X1.out.trans x2)
      clear x2
      go_wp2_with fail
      go_ret
      exact ⟨rfl, X2.out⟩
  · have c1 := Lib.hid fun w => planar_Valid x y false (by rw [decide_eq_false i1]) w
    obtain rfl : r = 0 := h.elim (fun e => absurd e.1 i1) (·.2)
    clear h i1
    go_enter Try.func17, Try.ntmps17
    go_wp2_with fail
    refine (c1.out _).mono ?_; rintro e w1 ⟨rfl, x1⟩
    have X1 := Lib.hid (pext3 x1)
    clear x1
    go_wp2_with fail
    go_ret
    exact ⟨rfl, X1.out⟩
set_option maxHeartbeats 2000000 in
theorem planar_Dist2 (x y u v r : Int) (h : PDist x y u v r) (w : World) :
    Calls Try.prog 21 #[.agg #[.int .i64 x, .int .i64 y], .agg #[.int .i64 u, .int .i64 v]] w fun e w' => e = .returned (.int .i64 r) ∧ Ext w w' := by
  by_cases i1 : In2 16777216 x y
  · have c1 := Lib.hid fun w => planar_Valid x y true (by rw [decide_eq_true i1]) w
    by_cases i2 : In2 16777216 u v
    · have c2 := Lib.hid fun w => planar_Valid u v true (by rw [decide_eq_true i2]) w
      obtain ⟨_, _, rfl⟩ | ⟨h, _⟩ := h
      case inr => exact absurd ⟨i1, i2⟩ h
      obtain ⟨a1, a2, a3, a4⟩ := i1
      obtain ⟨b1, b2, b3, b4⟩ := i2
      have m0 := mul_in (a := u - x) (b := u - x) (k := 33554432) (m := 33554432) (by omega) (by omega) (by omega) (by omega)
      have m1 := mul_in (a := v - y) (b := v - y) (k := 33554432) (m := 33554432) (by omega) (by omega) (by omega) (by omega)
      go_enter Try.func21, Try.ntmps21
      go_wp2_with fail
      refine (c1.out _).mono ?_; rintro e w1 ⟨rfl, x1⟩
      obtain ⟨k1, f1⟩ := bcell x1
      obtain ⟨z1, z2⟩ := psize2 x1
      have X1 := Lib.hid (pext2 x1)
      clear x1
      go_wp2_with fail
      refine (c2.out _).mono ?_; rintro e w2 ⟨rfl, x2⟩
      obtain ⟨k2, f2⟩ := bcell x2
      have X2 := Lib.hid (X1.out.trans x2)
      clear x2
      go_wp2_with fail
      go_ret
      exact ⟨rfl, X2.out⟩
    · have c2 := Lib.hid fun w => planar_Valid u v false (by rw [decide_eq_false i2]) w
      obtain rfl : r = 0 := h.elim (fun e => absurd e.2.1 i2) (·.2)
      clear h i1 i2
      go_enter Try.func21, Try.ntmps21
      go_wp2_with fail
      refine (c1.out _).mono ?_; rintro e w1 ⟨rfl, x1⟩
      obtain ⟨k1, f1⟩ := bcell x1
      obtain ⟨z1, z2⟩ := psize2 x1
      have X1 := Lib.hid (pext2 x1)
      clear x1
      go_wp2_with fail
      refine (c2.out _).mono ?_; rintro e w2 ⟨rfl, x2⟩
      have X2 := Lib.hid (X1.out.trans x2)
      clear x2
      go_wp2_with fail
      go_ret
      exact ⟨rfl, X2.out⟩
  · have c1 := Lib.hid fun w => planar_Valid x y false (by rw [decide_eq_false i1]) w
    obtain rfl : r = 0 := h.elim (fun e => absurd e.1 i1) (·.2)
    clear h i1
    go_enter Try.func21, Try.ntmps21
    go_wp2_with fail
    refine (c1.out _).mono ?_; rintro e w1 ⟨rfl, x1⟩
    have X1 := Lib.hid (pext2 x1)
    clear x1
    go_wp2_with fail
    go_ret
    exact ⟨rfl, X1.out⟩
theorem additiveref05_Valid (x y : Int) (b : Bool) (hb : b = decide (In2 16777216 x y)) (w : World) :
    Calls Try.prog 16 #[.agg #[.int .i64 x, .int .i64 y]] w fun e w' => e = .returned (.bool b) ∧ Ext w w' := by
  have HB := Lib.hid hb; clear hb
  go_enter Try.func16, Try.ntmps16
  go_wp2_with fail
  all_goals
    go_ret
    refine ⟨ret_b (Eq.symm ?_), (Ext.refl _).alloc _⟩
    rw [HB.out]
    first
    | exact decide_eq_false (by unfold In2; omega)
    | (rw [decide_eq_decide]; unfold In2; omega)
set_option maxHeartbeats 2000000 in
theorem additiveref05_Cross (x y u v a b r : Int) (h : PCross x y u v a b r) (w : World) :
    Calls Try.prog 18 #[.agg #[.int .i64 x, .int .i64 y], .agg #[.int .i64 u, .int .i64 v], .agg #[.int .i64 a, .int .i64 b]] w fun e w' => e = .returned (.int .i64 r) ∧ Ext w w' := by
  by_cases i1 : In2 16777216 x y
  · have c1 := Lib.hid fun w => additiveref05_Valid x y true (by rw [decide_eq_true i1]) w
    by_cases i2 : In2 16777216 u v
    · have c2 := Lib.hid fun w => additiveref05_Valid u v true (by rw [decide_eq_true i2]) w
      by_cases i3 : In2 16777216 a b
      · have c3 := Lib.hid fun w => additiveref05_Valid a b true (by rw [decide_eq_true i3]) w
        obtain ⟨_, _, _, rfl⟩ | ⟨h, _⟩ := h
        case inr => exact absurd ⟨i1, i2, i3⟩ h
        obtain ⟨a1, a2, a3, a4⟩ := i1
        obtain ⟨b1, b2, b3, b4⟩ := i2
        obtain ⟨d1, d2, d3, d4⟩ := i3
        have m0 := mul_in (a := u - x) (b := b - y) (k := 33554432) (m := 33554432) (by omega) (by omega) (by omega) (by omega)
        have m1 := mul_in (a := v - y) (b := a - x) (k := 33554432) (m := 33554432) (by omega) (by omega) (by omega) (by omega)
        go_enter Try.func18, Try.ntmps18
        go_wp2_with fail
        refine (c1.out _).mono ?_; rintro e w1 ⟨rfl, x1⟩
        obtain ⟨k1, f1⟩ := bcell x1
        obtain ⟨z1, z2, z3⟩ := psize3 x1
        have X1 := Lib.hid (pext3 x1)
        clear x1
        go_wp2_with fail
        refine (c2.out _).mono ?_; rintro e w2 ⟨rfl, x2⟩
        obtain ⟨k2, f2⟩ := bcell x2
        have y1 := Nat.lt_of_lt_of_le z1 x2.size
        have y2 := Nat.lt_of_lt_of_le z2 x2.size
        have y3 := Nat.lt_of_lt_of_le z3 x2.size
        have X2 := Lib.hid (X1.out.trans x2)
        clear x2
        go_wp2_with fail
        refine (c3.out _).mono ?_; rintro e w3 ⟨rfl, x3⟩
        obtain ⟨k3, f3⟩ := bcell x3
        have X3 := Lib.hid (X2.out.trans x3)
        clear x3
        go_wp2_with fail
        go_ret
        exact ⟨rfl, X3.out⟩
      · have c3 := Lib.hid fun w => additiveref05_Valid a b false (by rw [decide_eq_false i3]) w
        obtain rfl : r = 0 := h.elim (fun e => absurd e.2.2.1 i3) (·.2)
        clear h i1 i2 i3
        go_enter Try.func18, Try.ntmps18
        go_wp2_with fail
        refine (c1.out _).mono ?_; rintro e w1 ⟨rfl, x1⟩
        obtain ⟨k1, f1⟩ := bcell x1
        obtain ⟨z1, z2, z3⟩ := psize3 x1
        have X1 := Lib.hid (pext3 x1)
        clear x1
        go_wp2_with fail
        refine (c2.out _).mono ?_; rintro e w2 ⟨rfl, x2⟩
        obtain ⟨k2, f2⟩ := bcell x2
        have X2 := Lib.hid (X1.out.trans x2)
        clear x2
        go_wp2_with fail
        refine (c3.out _).mono ?_; rintro e w3 ⟨rfl, x3⟩
        have X3 := Lib.hid (X2.out.trans x3)
        clear x3
        go_wp2_with fail
        go_ret
        exact ⟨rfl, X3.out⟩
    · have c2 := Lib.hid fun w => additiveref05_Valid u v false (by rw [decide_eq_false i2]) w
      obtain rfl : r = 0 := h.elim (fun e => absurd e.2.1 i2) (·.2)
      clear h i1 i2
      go_enter Try.func18, Try.ntmps18
      go_wp2_with fail
      refine (c1.out _).mono ?_; rintro e w1 ⟨rfl, x1⟩
      obtain ⟨k1, f1⟩ := bcell x1
      obtain ⟨z1, z2, z3⟩ := psize3 x1
      have X1 := Lib.hid (pext3 x1)
      clear x1
      go_wp2_with fail
      refine (c2.out _).mono ?_; rintro e w2 ⟨rfl, x2⟩
      have X2 := Lib.hid (X1.out.trans x2)
      clear x2
      go_wp2_with fail
      go_ret
      exact ⟨rfl, X2.out⟩
  · have c1 := Lib.hid fun w => additiveref05_Valid x y false (by rw [decide_eq_false i1]) w
    obtain rfl : r = 0 := h.elim (fun e => absurd e.1 i1) (·.2)
    clear h i1
    go_enter Try.func18, Try.ntmps18
    go_wp2_with fail
    refine (c1.out _).mono ?_; rintro e w1 ⟨rfl, x1⟩
    have X1 := Lib.hid (pext3 x1)
    clear x1
    go_wp2_with fail
    go_ret
    exact ⟨rfl, X1.out⟩
set_option maxHeartbeats 2000000 in
theorem additiveref05_Dist2 (x y u v r : Int) (h : PDist x y u v r) (w : World) :
    Calls Try.prog 22 #[.agg #[.int .i64 x, .int .i64 y], .agg #[.int .i64 u, .int .i64 v]] w fun e w' => e = .returned (.int .i64 r) ∧ Ext w w' := by
  by_cases i1 : In2 16777216 x y
  · have c1 := Lib.hid fun w => additiveref05_Valid x y true (by rw [decide_eq_true i1]) w
    by_cases i2 : In2 16777216 u v
    · have c2 := Lib.hid fun w => additiveref05_Valid u v true (by rw [decide_eq_true i2]) w
      obtain ⟨_, _, rfl⟩ | ⟨h, _⟩ := h
      case inr => exact absurd ⟨i1, i2⟩ h
      obtain ⟨a1, a2, a3, a4⟩ := i1
      obtain ⟨b1, b2, b3, b4⟩ := i2
      have m0 := mul_in (a := u - x) (b := u - x) (k := 33554432) (m := 33554432) (by omega) (by omega) (by omega) (by omega)
      have m1 := mul_in (a := v - y) (b := v - y) (k := 33554432) (m := 33554432) (by omega) (by omega) (by omega) (by omega)
      go_enter Try.func22, Try.ntmps22
      go_wp2_with fail
      refine (c1.out _).mono ?_; rintro e w1 ⟨rfl, x1⟩
      obtain ⟨k1, f1⟩ := bcell x1
      obtain ⟨z1, z2⟩ := psize2 x1
      have X1 := Lib.hid (pext2 x1)
      clear x1
      go_wp2_with fail
      refine (c2.out _).mono ?_; rintro e w2 ⟨rfl, x2⟩
      obtain ⟨k2, f2⟩ := bcell x2
      have X2 := Lib.hid (X1.out.trans x2)
      clear x2
      go_wp2_with fail
      go_ret
      exact ⟨rfl, X2.out⟩
    · have c2 := Lib.hid fun w => additiveref05_Valid u v false (by rw [decide_eq_false i2]) w
      obtain rfl : r = 0 := h.elim (fun e => absurd e.2.1 i2) (·.2)
      clear h i1 i2
      go_enter Try.func22, Try.ntmps22
      go_wp2_with fail
      refine (c1.out _).mono ?_; rintro e w1 ⟨rfl, x1⟩
      obtain ⟨k1, f1⟩ := bcell x1
      obtain ⟨z1, z2⟩ := psize2 x1
      have X1 := Lib.hid (pext2 x1)
      clear x1
      go_wp2_with fail
      refine (c2.out _).mono ?_; rintro e w2 ⟨rfl, x2⟩
      have X2 := Lib.hid (X1.out.trans x2)
      clear x2
      go_wp2_with fail
      go_ret
      exact ⟨rfl, X2.out⟩
  · have c1 := Lib.hid fun w => additiveref05_Valid x y false (by rw [decide_eq_false i1]) w
    obtain rfl : r = 0 := h.elim (fun e => absurd e.1 i1) (·.2)
    clear h i1
    go_enter Try.func22, Try.ntmps22
    go_wp2_with fail
    refine (c1.out _).mono ?_; rintro e w1 ⟨rfl, x1⟩
    have X1 := Lib.hid (pext2 x1)
    clear x1
    go_wp2_with fail
    go_ret
    exact ⟨rfl, X1.out⟩
/-- The sign. -/
def sgn (r : Int) : Int := if 0 < r then 1 else if r < 0 then -1 else 0
end Go.Proofs.Ytlogipcffncdcaa

