/-
  Contracts of package vec and of the document's own answers: scalar products, determinants, points on a line.
-/
import Derived.Test.YtkppbkgjfkkelaaVecB
import Derived.Deep.RegionHeld3
namespace Go.Proofs.Ytkppbkgjfkkelaa
open Go.RowKit
theorem ext2 {w : World} {A B : Obj} {w1 : World} (x1 : Ext ((w.alloc A).alloc B) w1) : Ext w w1 := (((Ext.refl w).alloc _).alloc _).trans x1
theorem size2 {w : World} {A B : Obj} {w1 : World} (x1 : Ext ((w.alloc A).alloc B) w1) : w.heap.size < w1.heap.size ∧ w.heap.size + 1 < w1.heap.size := by
  have := x1.size; simp at this; omega
set_option maxHeartbeats 1000000 in
theorem vec_Dot (x y z u v t r : Int) (h : DotIs x y z u v t r) (w : World) :
    Calls Try.prog 15 #[.agg #[.int .i64 x, .int .i64 y, .int .i64 z], .agg #[.int .i64 u, .int .i64 v, .int .i64 t]] w fun e w' => e = .returned (.int .i64 r) ∧ Ext w w' := by
  rcases h with ⟨h1, h2, rfl⟩ | ⟨h, rfl⟩
  · have c1 := Lib.hid fun w => vec_within x y z 131072 (by omega) (by omega) true (by rw [decide_eq_true h1]) w
    have c2 := Lib.hid fun w => vec_within u v t 1099511627776 (by omega) (by omega) true (by rw [decide_eq_true h2]) w
    obtain ⟨a1, a2, a3, a4, a5, a6⟩ := h1
    obtain ⟨b1, b2, b3, b4, b5, b6⟩ := h2
    have m0 := mul_in (k := 131072) (m := 1099511627776) a1 a2 b1 b2
    have m1 := mul_in (k := 131072) (m := 1099511627776) a3 a4 b3 b4
    have m2 := mul_in (k := 131072) (m := 1099511627776) a5 a6 b5 b6
    go_enter Try.func15, Try.ntmps15
    go_wp2_with fail
    refine (c1.out _).mono ?_; rintro e w1 ⟨rfl, x1⟩
    obtain ⟨k1, f1⟩ := bcell x1
    obtain ⟨z1, z2⟩ := size2 x1
    have X1 := Lib.hid (ext2 x1)
    clear x1
    go_wp2_with fail
    refine (c2.out _).mono ?_; rintro e w2 ⟨rfl, x2⟩
    obtain ⟨k2, f2⟩ := bcell x2
    have X2 := Lib.hid (X1.out.trans x2)
    clear x2
    go_wp2_with fail
    go_ret
    exact ⟨rfl, X2.out⟩
  · by_cases h1 : In3 131072 x y z
    · have h2 : ¬ In3 1099511627776 u v t := fun e => h ⟨h1, e⟩
      have c1 := Lib.hid fun w => vec_within x y z 131072 (by omega) (by omega) true (by rw [decide_eq_true h1]) w
      have c2 := Lib.hid fun w => vec_within u v t 1099511627776 (by omega) (by omega) false (by rw [decide_eq_false h2]) w
      clear h h1 h2
      go_enter Try.func15, Try.ntmps15
      go_wp2_with fail
      refine (c1.out _).mono ?_; rintro e w1 ⟨rfl, x1⟩
      obtain ⟨k1, f1⟩ := bcell x1
      obtain ⟨z1, z2⟩ := size2 x1
      have X1 := Lib.hid (ext2 x1)
      clear x1
      go_wp2_with fail
      refine (c2.out _).mono ?_; rintro e w2 ⟨rfl, x2⟩
      have X2 := Lib.hid (X1.out.trans x2)
      clear x2
      go_wp2_with fail
      go_ret
      exact ⟨rfl, X2.out⟩
    · have c1 := Lib.hid fun w => vec_within x y z 131072 (by omega) (by omega) false (by rw [decide_eq_false h1]) w
      clear h h1
      go_enter Try.func15, Try.ntmps15
      go_wp2_with fail
      refine (c1.out _).mono ?_; rintro e w1 ⟨rfl, x1⟩
      have X1 := Lib.hid (ext2 x1)
      clear x1
      go_wp2_with fail
      go_ret
      exact ⟨rfl, X1.out⟩
set_option maxHeartbeats 1000000 in
theorem additiveref04_Dot (x y z u v t r : Int) (h : DotIs x y z u v t r) (w : World) :
    Calls Try.prog 16 #[.agg #[.int .i64 x, .int .i64 y, .int .i64 z], .agg #[.int .i64 u, .int .i64 v, .int .i64 t]] w fun e w' => e = .returned (.int .i64 r) ∧ Ext w w' := by
  rcases h with ⟨h1, h2, rfl⟩ | ⟨h, rfl⟩
  · have c1 := Lib.hid fun w => additiveref04_small x y z true (by rw [decide_eq_true h1]) w
    have c2 := Lib.hid fun w => additiveref04_within u v t 1099511627776 (by omega) (by omega) true (by rw [decide_eq_true h2]) w
    obtain ⟨a1, a2, a3, a4, a5, a6⟩ := h1
    obtain ⟨b1, b2, b3, b4, b5, b6⟩ := h2
    have m0 := mul_in (k := 131072) (m := 1099511627776) a1 a2 b1 b2
    have m1 := mul_in (k := 131072) (m := 1099511627776) a3 a4 b3 b4
    have m2 := mul_in (k := 131072) (m := 1099511627776) a5 a6 b5 b6
    go_enter Try.func16, Try.ntmps16
    go_wp2_with fail
    refine (c1.out _).mono ?_; rintro e w1 ⟨rfl, x1⟩
    obtain ⟨k1, f1⟩ := bcell x1
    obtain ⟨z1, z2⟩ := size2 x1
    have X1 := Lib.hid (ext2 x1)
    clear x1
    go_wp2_with fail
    refine (c2.out _).mono ?_; rintro e w2 ⟨rfl, x2⟩
    obtain ⟨k2, f2⟩ := bcell x2
    have X2 := Lib.hid (X1.out.trans x2)
    clear x2
    go_wp2_with fail
    go_ret
    exact ⟨rfl, X2.out⟩
  · by_cases h1 : In3 131072 x y z
    · have h2 : ¬ In3 1099511627776 u v t := fun e => h ⟨h1, e⟩
      have c1 := Lib.hid fun w => additiveref04_small x y z true (by rw [decide_eq_true h1]) w
      have c2 := Lib.hid fun w => additiveref04_within u v t 1099511627776 (by omega) (by omega) false (by rw [decide_eq_false h2]) w
      clear h h1 h2
      go_enter Try.func16, Try.ntmps16
      go_wp2_with fail
      refine (c1.out _).mono ?_; rintro e w1 ⟨rfl, x1⟩
      obtain ⟨k1, f1⟩ := bcell x1
      obtain ⟨z1, z2⟩ := size2 x1
      have X1 := Lib.hid (ext2 x1)
      clear x1
      go_wp2_with fail
      refine (c2.out _).mono ?_; rintro e w2 ⟨rfl, x2⟩
      have X2 := Lib.hid (X1.out.trans x2)
      clear x2
      go_wp2_with fail
      go_ret
      exact ⟨rfl, X2.out⟩
    · have c1 := Lib.hid fun w => additiveref04_small x y z false (by rw [decide_eq_false h1]) w
      clear h h1
      go_enter Try.func16, Try.ntmps16
      go_wp2_with fail
      refine (c1.out _).mono ?_; rintro e w1 ⟨rfl, x1⟩
      have X1 := Lib.hid (ext2 x1)
      clear x1
      go_wp2_with fail
      go_ret
      exact ⟨rfl, X1.out⟩
/-- The determinant. -/
def det3 (x y z u v t a b c : Int) : Int := x * (v * c - t * b) + y * (t * a - u * c) + z * (u * b - v * a)
/-- r is what Det answers. -/
def DetIs (x y z u v t a b c r : Int) : Prop := (In3 131072 x y z ∧ In3 131072 u v t ∧ In3 131072 a b c ∧ r = det3 x y z u v t a b c) ∨ (¬ (In3 131072 x y z ∧ In3 131072 u v t ∧ In3 131072 a b c) ∧ r = 0)
theorem cross_wide {u v t a b c r s q : Int} (h : CrossIs u v t a b c r s q) : In3 1099511627776 r s q := by
  rcases h with ⟨⟨a1, a2, a3, a4, a5, a6⟩, ⟨b1, b2, b3, b4, b5, b6⟩, rfl, rfl, rfl⟩ | ⟨_, rfl, rfl, rfl⟩
  · have m0 := mul_in (k := 131072) (m := 131072) a3 a4 b5 b6
    have m1 := mul_in (k := 131072) (m := 131072) a5 a6 b3 b4
    have m2 := mul_in (k := 131072) (m := 131072) a5 a6 b1 b2
    have m3 := mul_in (k := 131072) (m := 131072) a1 a2 b5 b6
    have m4 := mul_in (k := 131072) (m := 131072) a1 a2 b3 b4
    have m5 := mul_in (k := 131072) (m := 131072) a3 a4 b1 b2
    unfold In3; omega
  · unfold In3; omega
theorem det_dot {x y z u v t a b c r : Int} (h : DetIs x y z u v t a b c r) : ∃ p s q, CrossIs u v t a b c p s q ∧ DotIs x y z p s q r := by
  obtain ⟨p, s, q, hc⟩ := crossIs_ex u v t a b c
  refine ⟨p, s, q, hc, ?_⟩
  have hw := cross_wide hc
  rcases h with ⟨h1, h2, h3, rfl⟩ | ⟨h, rfl⟩
  · rcases hc with ⟨_, _, rfl, rfl, rfl⟩ | ⟨hn, _⟩
    · exact .inl ⟨h1, hw, rfl⟩
    · exact absurd ⟨h2, h3⟩ hn
  · by_cases h1 : In3 131072 x y z
    · rcases hc with ⟨h2, h3, _⟩ | ⟨_, rfl, rfl, rfl⟩
      · exact absurd ⟨h1, h2, h3⟩ h
      · exact .inl ⟨h1, hw, by simp⟩
    · exact .inr ⟨fun e => h1 e.1, rfl⟩
theorem held9 {W w1 : World} {B0 B1 B2 : Nat} {x y z u v t a b c : Int} (h : Ext W w1) (hs : W.cell? ⟨B0, 0, none⟩ = some (.int .i64 x) ∧ W.cell? ⟨B0, 1, none⟩ = some (.int .i64 y) ∧ W.cell? ⟨B0, 2, none⟩ = some (.int .i64 z) ∧ W.cell? ⟨B1, 0, none⟩ = some (.int .i64 u) ∧ W.cell? ⟨B1, 1, none⟩ = some (.int .i64 v) ∧ W.cell? ⟨B1, 2, none⟩ = some (.int .i64 t) ∧ W.cell? ⟨B2, 0, none⟩ = some (.int .i64 a) ∧ W.cell? ⟨B2, 1, none⟩ = some (.int .i64 b) ∧ W.cell? ⟨B2, 2, none⟩ = some (.int .i64 c)) : w1.cell? ⟨B0, 0, none⟩ = some (.int .i64 x) ∧ w1.cell? ⟨B0, 1, none⟩ = some (.int .i64 y) ∧ w1.cell? ⟨B0, 2, none⟩ = some (.int .i64 z) ∧ w1.cell? ⟨B1, 0, none⟩ = some (.int .i64 u) ∧ w1.cell? ⟨B1, 1, none⟩ = some (.int .i64 v) ∧ w1.cell? ⟨B1, 2, none⟩ = some (.int .i64 t) ∧ w1.cell? ⟨B2, 0, none⟩ = some (.int .i64 a) ∧ w1.cell? ⟨B2, 1, none⟩ = some (.int .i64 b) ∧ w1.cell? ⟨B2, 2, none⟩ = some (.int .i64 c) := by
  obtain ⟨h0, h1, h2, h3, h4, h5, h6, h7, h8⟩ := hs
  exact ⟨h.keep h0, h.keep h1, h.keep h2, h.keep h3, h.keep h4, h.keep h5, h.keep h6, h.keep h7, h.keep h8⟩
theorem held9_new (w : World) (x y z u v t a b c : Int) (T : TypeId) : ∃ W, (((w.alloc (.cells #[.int .i64 x, .int .i64 y, .int .i64 z] T)).alloc (.cells #[.int .i64 u, .int .i64 v, .int .i64 t] T)).alloc (.cells #[.int .i64 a, .int .i64 b, .int .i64 c] T)) = W ∧ Ext w W ∧ (W.cell? ⟨w.heap.size, 0, none⟩ = some (.int .i64 x) ∧ W.cell? ⟨w.heap.size, 1, none⟩ = some (.int .i64 y) ∧ W.cell? ⟨w.heap.size, 2, none⟩ = some (.int .i64 z) ∧ W.cell? ⟨w.heap.size + 1, 0, none⟩ = some (.int .i64 u) ∧ W.cell? ⟨w.heap.size + 1, 1, none⟩ = some (.int .i64 v) ∧ W.cell? ⟨w.heap.size + 1, 2, none⟩ = some (.int .i64 t) ∧ W.cell? ⟨w.heap.size + 1 + 1, 0, none⟩ = some (.int .i64 a) ∧ W.cell? ⟨w.heap.size + 1 + 1, 1, none⟩ = some (.int .i64 b) ∧ W.cell? ⟨w.heap.size + 1 + 1, 2, none⟩ = some (.int .i64 c)) := by
  refine ⟨_, rfl, (((Ext.refl w).alloc _).alloc _).alloc _, ?_, ?_, ?_, ?_, ?_, ?_, ?_, ?_, ?_⟩ <;> go_simp
set_option maxHeartbeats 1000000 in
theorem vec_Det (x y z u v t a b c r : Int) (h : DetIs x y z u v t a b c r) (w : World) :
    Calls Try.prog 19 #[.agg #[.int .i64 x, .int .i64 y, .int .i64 z], .agg #[.int .i64 u, .int .i64 v, .int .i64 t], .agg #[.int .i64 a, .int .i64 b, .int .i64 c]] w fun e w' => e = .returned (.int .i64 r) ∧ Ext w w' := by
  obtain ⟨p, s, q, hc, hd⟩ := det_dot h
  have c1 := Lib.hid fun w => vec_Cross u v t a b c p s q hc w
  have c2 := Lib.hid fun w => vec_Dot x y z p s q r hd w
  obtain ⟨W, hW, hx, hS⟩ := held9_new w x y z u v t a b c 23
  clear h hc hd
  have HX := Lib.hid hx
  go_enter Try.func19, Try.ntmps19
  go_wp2_with fail
  clear hW hx
  go_region_held3 (fun w' => w'.cell? ⟨w.heap.size, 0, none⟩ = some (.int .i64 x) ∧ w'.cell? ⟨w.heap.size, 1, none⟩ = some (.int .i64 y) ∧ w'.cell? ⟨w.heap.size, 2, none⟩ = some (.int .i64 z) ∧ w'.cell? ⟨w.heap.size + 1, 0, none⟩ = some (.int .i64 u) ∧ w'.cell? ⟨w.heap.size + 1, 1, none⟩ = some (.int .i64 v) ∧ w'.cell? ⟨w.heap.size + 1, 2, none⟩ = some (.int .i64 t) ∧ w'.cell? ⟨w.heap.size + 1 + 1, 0, none⟩ = some (.int .i64 a) ∧ w'.cell? ⟨w.heap.size + 1 + 1, 1, none⟩ = some (.int .i64 b) ∧ w'.cell? ⟨w.heap.size + 1 + 1, 2, none⟩ = some (.int .i64 c)) (first | assumption | go_keep)
    (first
      | (go_at_call 9; refine (c1.out _).mono ?_; rintro e w1 ⟨rfl, h1⟩; have K1 := held9 h1 (by assumption))
      | (go_at_call 15; refine (c2.out _).mono ?_; rintro e w2 ⟨rfl, h2⟩; have K2 := held9 h2 (by assumption)))
  all_goals
    go_wp2_with fail
    go_ret
    exact ⟨rfl, (HX.out.drew.trans h1).trans h2⟩
theorem additiveref04_Det_no1 (x y z u v t a b c : Int) (i1 : ¬ In3 131072 x y z) (w : World) :
    Calls Try.prog 20 #[.agg #[.int .i64 x, .int .i64 y, .int .i64 z], .agg #[.int .i64 u, .int .i64 v, .int .i64 t], .agg #[.int .i64 a, .int .i64 b, .int .i64 c]] w fun e w' => e = .returned (.int .i64 0) ∧ Ext w w' := by
  have d1 := Lib.hid fun w => additiveref04_small x y z false (by rw [decide_eq_false i1]) w
  obtain ⟨W, hW, hx, hS⟩ := held9_new w x y z u v t a b c 23
  have HX := Lib.hid hx
  clear i1
  go_enter Try.func20, Try.ntmps20
  go_wp2_with fail
  clear hW hx
  refine (d1.out _).mono ?_; rintro e v1 ⟨rfl, g1⟩
  have K1 := held9 g1 hS
  have Y1 := Lib.hid (HX.out.trans g1)
  clear g1 hS
  go_wp2_with fail
  go_ret
  exact ⟨rfl, Y1.out⟩
theorem additiveref04_Det_no2 (x y z u v t a b c : Int) (i1 : In3 131072 x y z) (i2 : ¬ In3 131072 u v t) (w : World) :
    Calls Try.prog 20 #[.agg #[.int .i64 x, .int .i64 y, .int .i64 z], .agg #[.int .i64 u, .int .i64 v, .int .i64 t], .agg #[.int .i64 a, .int .i64 b, .int .i64 c]] w fun e w' => e = .returned (.int .i64 0) ∧ Ext w w' := by
  have d1 := Lib.hid fun w => additiveref04_small x y z true (by rw [decide_eq_true i1]) w
  have d2 := Lib.hid fun w => additiveref04_small u v t false (by rw [decide_eq_false i2]) w
  obtain ⟨W, hW, hx, hS⟩ := held9_new w x y z u v t a b c 23
  have HX := Lib.hid hx
  clear i1 i2
  go_enter Try.func20, Try.ntmps20
  go_wp2_with fail
  clear hW hx
  refine (d1.out _).mono ?_; rintro e v1 ⟨rfl, g1⟩
  have K1 := held9 g1 hS
  have Y1 := Lib.hid (HX.out.trans g1)
  clear g1 hS
  go_wp2_with fail
  refine (d2.out _).mono ?_; rintro e v2 ⟨rfl, g2⟩
  have K2 := held9 g2 K1
  have Y2 := Lib.hid (Y1.out.trans g2)
  clear g2 K1
  go_wp2_with fail
  go_ret
  exact ⟨rfl, Y2.out⟩
theorem additiveref04_Det_no3 (x y z u v t a b c : Int) (i1 : In3 131072 x y z) (i2 : In3 131072 u v t) (i3 : ¬ In3 131072 a b c) (w : World) :
    Calls Try.prog 20 #[.agg #[.int .i64 x, .int .i64 y, .int .i64 z], .agg #[.int .i64 u, .int .i64 v, .int .i64 t], .agg #[.int .i64 a, .int .i64 b, .int .i64 c]] w fun e w' => e = .returned (.int .i64 0) ∧ Ext w w' := by
  have d1 := Lib.hid fun w => additiveref04_small x y z true (by rw [decide_eq_true i1]) w
  have d2 := Lib.hid fun w => additiveref04_small u v t true (by rw [decide_eq_true i2]) w
  have d3 := Lib.hid fun w => additiveref04_small a b c false (by rw [decide_eq_false i3]) w
  obtain ⟨W, hW, hx, hS⟩ := held9_new w x y z u v t a b c 23
  have HX := Lib.hid hx
  clear i1 i2 i3
  go_enter Try.func20, Try.ntmps20
  go_wp2_with fail
  clear hW hx
  refine (d1.out _).mono ?_; rintro e v1 ⟨rfl, g1⟩
  have K1 := held9 g1 hS
  have Y1 := Lib.hid (HX.out.trans g1)
  clear g1 hS
  go_wp2_with fail
  refine (d2.out _).mono ?_; rintro e v2 ⟨rfl, g2⟩
  have K2 := held9 g2 K1
  have Y2 := Lib.hid (Y1.out.trans g2)
  clear g2 K1
  go_wp2_with fail
  refine (d3.out _).mono ?_; rintro e v3 ⟨rfl, g3⟩
  have K3 := held9 g3 K2
  have Y3 := Lib.hid (Y2.out.trans g3)
  clear g3 K2
  go_wp2_with fail
  go_ret
  exact ⟨rfl, Y3.out⟩
set_option maxHeartbeats 1000000 in
theorem additiveref04_Det (x y z u v t a b c r : Int) (h : DetIs x y z u v t a b c r) (w : World) :
    Calls Try.prog 20 #[.agg #[.int .i64 x, .int .i64 y, .int .i64 z], .agg #[.int .i64 u, .int .i64 v, .int .i64 t], .agg #[.int .i64 a, .int .i64 b, .int .i64 c]] w fun e w' => e = .returned (.int .i64 r) ∧ Ext w w' := by
  by_cases i1 : In3 131072 x y z
  case neg =>
    rcases h with ⟨h1, _⟩ | ⟨_, rfl⟩
    · exact absurd h1 i1
    · exact additiveref04_Det_no1 x y z u v t a b c i1 w
  by_cases i2 : In3 131072 u v t
  case neg =>
    rcases h with ⟨_, h1, _⟩ | ⟨_, rfl⟩
    · exact absurd h1 i2
    · exact additiveref04_Det_no2 x y z u v t a b c i1 i2 w
  by_cases i3 : In3 131072 a b c
  case neg =>
    rcases h with ⟨_, _, h1, _⟩ | ⟨_, rfl⟩
    · exact absurd h1 i3
    · exact additiveref04_Det_no3 x y z u v t a b c i1 i2 i3 w
  have d1 := Lib.hid fun w => additiveref04_small x y z true (by rw [decide_eq_true i1]) w
  have d2 := Lib.hid fun w => additiveref04_small u v t true (by rw [decide_eq_true i2]) w
  have d3 := Lib.hid fun w => additiveref04_small a b c true (by rw [decide_eq_true i3]) w
  obtain ⟨p, s, q, hc, hd⟩ := det_dot h
  have c1 := Lib.hid fun w => additiveref04_Cross u v t a b c p s q hc w
  have c2 := Lib.hid fun w => additiveref04_Dot x y z p s q r hd w
  obtain ⟨W, hW, hx, hS⟩ := held9_new w x y z u v t a b c 23
  have HX := Lib.hid hx
  clear h hc hd i1 i2 i3
  go_enter Try.func20, Try.ntmps20
  go_wp2_with fail
  clear hW hx
  refine (d1.out _).mono ?_; rintro e v1 ⟨rfl, g1⟩
  have K1 := held9 g1 hS
  have Y1 := Lib.hid (HX.out.trans g1)
  clear g1 hS
  go_wp2_with fail
  refine (d2.out _).mono ?_; rintro e v2 ⟨rfl, g2⟩
  have K2 := held9 g2 K1
  have Y2 := Lib.hid (Y1.out.trans g2)
  clear g2 K1
  go_wp2_with fail
  refine (d3.out _).mono ?_; rintro e v3 ⟨rfl, g3⟩
  have K3 := held9 g3 K2
  have Y3 := Lib.hid (Y2.out.trans g3)
  clear g3 K2
  go_wp2_with fail
  go_region_held3 (fun w' => w'.cell? ⟨w.heap.size, 0, none⟩ = some (.int .i64 x) ∧ w'.cell? ⟨w.heap.size, 1, none⟩ = some (.int .i64 y) ∧ w'.cell? ⟨w.heap.size, 2, none⟩ = some (.int .i64 z) ∧ w'.cell? ⟨w.heap.size + 1, 0, none⟩ = some (.int .i64 u) ∧ w'.cell? ⟨w.heap.size + 1, 1, none⟩ = some (.int .i64 v) ∧ w'.cell? ⟨w.heap.size + 1, 2, none⟩ = some (.int .i64 t) ∧ w'.cell? ⟨w.heap.size + 1 + 1, 0, none⟩ = some (.int .i64 a) ∧ w'.cell? ⟨w.heap.size + 1 + 1, 1, none⟩ = some (.int .i64 b) ∧ w'.cell? ⟨w.heap.size + 1 + 1, 2, none⟩ = some (.int .i64 c)) (first | assumption | go_keep)
    (first
      | (go_at_call 14; refine (c1.out _).mono ?_; rintro e w1 ⟨rfl, h1⟩; have L1 := held9 h1 (by assumption))
      | (go_at_call 16; refine (c2.out _).mono ?_; rintro e w2 ⟨rfl, h2⟩; have L2 := held9 h2 (by assumption)))
  all_goals
    go_wp2_with fail
    go_ret
    exact ⟨rfl, (Y3.out.drew.trans h1).trans h2⟩
/-- Three valid points on a line. -/
def LineIs (x y z u v t a b c : Int) (r : Bool) : Prop := r = decide (In3 65536 x y z ∧ In3 65536 u v t ∧ In3 65536 a b c ∧ (v - y) * (c - z) - (t - z) * (b - y) = 0 ∧ (t - z) * (a - x) - (u - x) * (c - z) = 0 ∧ (u - x) * (b - y) - (v - y) * (a - x) = 0)
theorem line_parts {x y z u v t a b c : Int} (i1 : In3 65536 x y z) (i2 : In3 65536 u v t) (i3 : In3 65536 a b c) : SubIs u v t x y z (u - x) (v - y) (t - z) ∧ SubIs a b c x y z (a - x) (b - y) (c - z) ∧
    CrossIs (u - x) (v - y) (t - z) (a - x) (b - y) (c - z) ((v - y) * (c - z) - (t - z) * (b - y)) ((t - z) * (a - x) - (u - x) * (c - z)) ((u - x) * (b - y) - (v - y) * (a - x)) := by
  refine ⟨.inl ⟨i2, i1, rfl, rfl, rfl⟩, .inl ⟨i3, i1, rfl, rfl, rfl⟩, .inl ⟨?_, ?_, rfl, rfl, rfl⟩⟩ <;> (unfold In3 at *; omega)
theorem additiveref04_Collinear_no1 (x y z u v t a b c : Int) (i1 : ¬ In3 65536 x y z) (w : World) :
    Calls Try.prog 26 #[.agg #[.int .i64 x, .int .i64 y, .int .i64 z], .agg #[.int .i64 u, .int .i64 v, .int .i64 t], .agg #[.int .i64 a, .int .i64 b, .int .i64 c]] w fun e w' => e = .returned (.bool false) ∧ Ext w w' := by
  have d1 := Lib.hid fun w => additiveref04_Valid x y z false (by rw [decide_eq_false i1]) w
  obtain ⟨W, hW, hx, hS⟩ := held9_new w x y z u v t a b c 23
  have HX := Lib.hid hx
  clear i1
  go_enter Try.func26, Try.ntmps26
  go_wp2_with fail
  clear hW hx
  refine (d1.out _).mono ?_; rintro e v1 ⟨rfl, g1⟩
  have K1 := held9 g1 hS
  have Y1 := Lib.hid (HX.out.trans g1)
  clear g1 hS
  go_wp2_with fail
  go_ret
  exact ⟨rfl, Y1.out⟩
theorem additiveref04_Collinear_no2 (x y z u v t a b c : Int) (i1 : In3 65536 x y z) (i2 : ¬ In3 65536 u v t) (w : World) :
    Calls Try.prog 26 #[.agg #[.int .i64 x, .int .i64 y, .int .i64 z], .agg #[.int .i64 u, .int .i64 v, .int .i64 t], .agg #[.int .i64 a, .int .i64 b, .int .i64 c]] w fun e w' => e = .returned (.bool false) ∧ Ext w w' := by
  have d1 := Lib.hid fun w => additiveref04_Valid x y z true (by rw [decide_eq_true i1]) w
  have d2 := Lib.hid fun w => additiveref04_Valid u v t false (by rw [decide_eq_false i2]) w
  obtain ⟨W, hW, hx, hS⟩ := held9_new w x y z u v t a b c 23
  have HX := Lib.hid hx
  clear i1 i2
  go_enter Try.func26, Try.ntmps26
  go_wp2_with fail
  clear hW hx
  refine (d1.out _).mono ?_; rintro e v1 ⟨rfl, g1⟩
  have K1 := held9 g1 hS
  have Y1 := Lib.hid (HX.out.trans g1)
  clear g1 hS
  go_wp2_with fail
  refine (d2.out _).mono ?_; rintro e v2 ⟨rfl, g2⟩
  have K2 := held9 g2 K1
  have Y2 := Lib.hid (Y1.out.trans g2)
  clear g2 K1
  go_wp2_with fail
  go_ret
  exact ⟨rfl, Y2.out⟩
theorem additiveref04_Collinear_no3 (x y z u v t a b c : Int) (i1 : In3 65536 x y z) (i2 : In3 65536 u v t) (i3 : ¬ In3 65536 a b c) (w : World) :
    Calls Try.prog 26 #[.agg #[.int .i64 x, .int .i64 y, .int .i64 z], .agg #[.int .i64 u, .int .i64 v, .int .i64 t], .agg #[.int .i64 a, .int .i64 b, .int .i64 c]] w fun e w' => e = .returned (.bool false) ∧ Ext w w' := by
  have d1 := Lib.hid fun w => additiveref04_Valid x y z true (by rw [decide_eq_true i1]) w
  have d2 := Lib.hid fun w => additiveref04_Valid u v t true (by rw [decide_eq_true i2]) w
  have d3 := Lib.hid fun w => additiveref04_Valid a b c false (by rw [decide_eq_false i3]) w
  obtain ⟨W, hW, hx, hS⟩ := held9_new w x y z u v t a b c 23
  have HX := Lib.hid hx
  clear i1 i2 i3
  go_enter Try.func26, Try.ntmps26
  go_wp2_with fail
  clear hW hx
  refine (d1.out _).mono ?_; rintro e v1 ⟨rfl, g1⟩
  have K1 := held9 g1 hS
  have Y1 := Lib.hid (HX.out.trans g1)
  clear g1 hS
  go_wp2_with fail
  refine (d2.out _).mono ?_; rintro e v2 ⟨rfl, g2⟩
  have K2 := held9 g2 K1
  have Y2 := Lib.hid (Y1.out.trans g2)
  clear g2 K1
  go_wp2_with fail
  refine (d3.out _).mono ?_; rintro e v3 ⟨rfl, g3⟩
  have K3 := held9 g3 K2
  have Y3 := Lib.hid (Y2.out.trans g3)
  clear g3 K2
  go_wp2_with fail
  go_ret
  exact ⟨rfl, Y3.out⟩
end Go.Proofs.Ytkppbkgjfkkelaa

