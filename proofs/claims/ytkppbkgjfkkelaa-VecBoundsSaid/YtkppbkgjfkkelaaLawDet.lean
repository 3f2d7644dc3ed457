/-
  The walks of the laws VecDet and VecLines: each answers true, where the chapter's examples are reproduced.
-/
import Derived.Test.YtkppbkgjfkkelaaLawV
namespace Go.Proofs.Ytkppbkgjfkkelaa
open Go.RowKit
theorem det_rot (x y z u v t a b c : Int) : det3 u v t a b c x y z = det3 x y z u v t a b c := by unfold det3; grind
theorem det_swap (x y z u v t a b c : Int) : det3 u v t x y z a b c = -det3 x y z u v t a b c := by unfold det3; grind
theorem det_swap2 (x y z u v t a b c : Int) : det3 x y z a b c u v t = -det3 x y z u v t a b c := by unfold det3; grind
theorem det_same (x y z u v t : Int) : det3 x y z x y z u v t = 0 := by unfold det3; grind
theorem det_same2 (x y z u v t : Int) : det3 x y z u v t u v t = 0 := by unfold det3; grind
theorem detIs_ex (x y z u v t a b c : Int) : ∃ r, DetIs x y z u v t a b c r := by
  by_cases h : In3 131072 x y z ∧ In3 131072 u v t ∧ In3 131072 a b c
  · exact ⟨_, .inl ⟨h.1, h.2.1, h.2.2, rfl⟩⟩
  · exact ⟨_, .inr ⟨h, rfl⟩⟩
theorem detIs_all {x y z u v t a b c r : Int} (h : DetIs x y z u v t a b c r) : DetIs u v t a b c x y z r ∧ DetIs u v t x y z a b c (-r) ∧ DetIs x y z a b c u v t (-r) ∧ DetIs x y z x y z u v t 0 ∧ DetIs x y z u v t u v t 0 := by
  have z1 : DetIs x y z x y z u v t 0 := by
    by_cases h : In3 131072 x y z ∧ In3 131072 x y z ∧ In3 131072 u v t
    · exact .inl ⟨h.1, h.2.1, h.2.2, (det_same _ _ _ _ _ _).symm⟩
    · exact .inr ⟨h, rfl⟩
  have z2 : DetIs x y z u v t u v t 0 := by
    by_cases h : In3 131072 x y z ∧ In3 131072 u v t ∧ In3 131072 u v t
    · exact .inl ⟨h.1, h.2.1, h.2.2, (det_same2 _ _ _ _ _ _).symm⟩
    · exact .inr ⟨h, rfl⟩
  rcases h with ⟨h1, h2, h3, rfl⟩ | ⟨h, rfl⟩
  · exact ⟨.inl ⟨h2, h3, h1, (det_rot _ _ _ _ _ _ _ _ _).symm⟩, .inl ⟨h2, h1, h3, (det_swap _ _ _ _ _ _ _ _ _).symm⟩, .inl ⟨h1, h3, h2, (det_swap2 _ _ _ _ _ _ _ _ _).symm⟩, z1, z2⟩
  · exact ⟨.inr ⟨fun e => h ⟨e.2.2, e.1, e.2.1⟩, rfl⟩, .inr ⟨fun e => h ⟨e.2.1, e.1, e.2.2⟩, rfl⟩, .inr ⟨fun e => h ⟨e.1, e.2.2, e.2.1⟩, rfl⟩, z1, z2⟩
theorem detIs_bound {x y z u v t a b c r : Int} (h : DetIs x y z u v t a b c r) : -1152921504606846976 ≤ r ∧ r ≤ 1152921504606846976 := by
  obtain ⟨p, s, q, hc, hd⟩ := det_dot h
  rcases hd with ⟨⟨a1, a2, a3, a4, a5, a6⟩, ⟨b1, b2, b3, b4, b5, b6⟩, rfl⟩ | ⟨_, rfl⟩
  · have m0 := mul_in (k := 131072) (m := 1099511627776) a1 a2 b1 b2
    have m1 := mul_in (k := 131072) (m := 1099511627776) a3 a4 b3 b4
    have m2 := mul_in (k := 131072) (m := 1099511627776) a5 a6 b5 b6
    omega
  · omega
set_option maxHeartbeats 4000000 in
theorem law_VecDet (x y z u v t a b c : Int)  (hk : Awake4) (w : World) :
    Calls Try.prog 4 #[.agg #[.int .i64 x, .int .i64 y, .int .i64 z], .agg #[.int .i64 u, .int .i64 v, .int .i64 t], .agg #[.int .i64 a, .int .i64 b, .int .i64 c]] w fun e w' => e = .returned (.bool true) ∧ Ext w w' := by
  obtain ⟨r, hr⟩ := detIs_ex x y z u v t a b c
  obtain ⟨h1, h2, h3, h4, h5⟩ := detIs_all hr
  obtain ⟨r0, r1⟩ := detIs_bound hr
  have C0 := Lib.hid fun w => vec_Det x y z u v t a b c r hr w
  have R0 := Lib.hid fun w => additiveref04_Det x y z u v t a b c r hr w
  have C1 := Lib.hid fun w => vec_Det u v t a b c x y z r h1 w
  have C2 := Lib.hid fun w => vec_Det u v t x y z a b c (-r) h2 w
  have C3 := Lib.hid fun w => vec_Det x y z a b c u v t (-r) h3 w
  have C4 := Lib.hid fun w => vec_Det x y z x y z u v t 0 h4 w
  have C5 := Lib.hid fun w => vec_Det x y z u v t u v t 0 h5 w
  obtain ⟨W, hW, hx, hS⟩ := held9_new w x y z u v t a b c 23
  have HX := Lib.hid hx
  have KA := Lib.hid hk
  clear hr h1 h2 h3 h4 h5 hk
  go_enter Try.func4, Try.ntmps4
  go_wp2_with fail
  clear hW hx
  refine (C0.out _).mono ?_; rintro e v1 ⟨rfl, g1⟩
  have K1 := held9 g1 hS
  have Y1 := Lib.hid (HX.out.trans g1)
  clear g1 hS
  go_wp2_with fail
  refine (R0.out _).mono ?_; rintro e v2 ⟨rfl, g2⟩
  have K2 := held9 g2 K1
  have Y2 := Lib.hid (Y1.out.trans g2)
  clear g2 K1
  go_wp2_with fail
  refine (C1.out _).mono ?_; rintro e v3 ⟨rfl, g3⟩
  have K3 := held9 g3 K2
  have Y3 := Lib.hid (Y2.out.trans g3)
  clear g3 K2
  go_wp2_with fail
  refine (C2.out _).mono ?_; rintro e v4 ⟨rfl, g4⟩
  have K4 := held9 g4 K3
  have Y4 := Lib.hid (Y3.out.trans g4)
  clear g4 K3
  go_wp2_with fail
  refine (C3.out _).mono ?_; rintro e v5 ⟨rfl, g5⟩
  have K5 := held9 g5 K4
  have Y5 := Lib.hid (Y4.out.trans g5)
  clear g5 K4
  go_wp2_with fail
  refine (C4.out _).mono ?_; rintro e v6 ⟨rfl, g6⟩
  have K6 := held9 g6 K5
  have Y6 := Lib.hid (Y5.out.trans g6)
  clear g6 K5
  go_wp2_with fail
  refine (C5.out _).mono ?_; rintro e v7 ⟨rfl, g7⟩
  have K7 := held9 g7 K6
  have Y7 := Lib.hid (Y6.out.trans g7)
  clear g7 K6
  go_wp2_with fail
  refine (KA.out _).mono ?_; rintro e w9 ⟨rfl, h9⟩
  go_wp2_with fail
  go_ret
  exact ⟨rfl, Y7.out.trans h9⟩
theorem lineIs_all {x y z u v t a b c : Int} {r : Bool} (h : LineIs x y z u v t a b c r) : LineIs u v t a b c x y z r ∧ LineIs u v t x y z a b c r := by
  unfold LineIs at *
  subst h
  rw [decide_eq_decide, decide_eq_decide]
  have e1 : (b - v) * (z - t) - (c - t) * (y - v) = (v - y) * (c - z) - (t - z) * (b - y) := by grind
  have e2 : (c - t) * (x - u) - (a - u) * (z - t) = (t - z) * (a - x) - (u - x) * (c - z) := by grind
  have e3 : (a - u) * (y - v) - (b - v) * (x - u) = (u - x) * (b - y) - (v - y) * (a - x) := by grind
  have f1 : (y - v) * (c - t) - (z - t) * (b - v) = -((v - y) * (c - z) - (t - z) * (b - y)) := by grind
  have f2 : (z - t) * (a - u) - (x - u) * (c - t) = -((t - z) * (a - x) - (u - x) * (c - z)) := by grind
  have f3 : (x - u) * (b - v) - (y - v) * (a - u) = -((u - x) * (b - y) - (v - y) * (a - x)) := by grind
  rw [e1, e2, e3, f1, f2, f3]
  exact ⟨⟨fun ⟨p, q, r, s⟩ => ⟨q, r, p, s⟩, fun ⟨p, q, r, s⟩ => ⟨r, p, q, s⟩⟩, ⟨fun ⟨p, q, r, s1, s2, s3⟩ => ⟨q, p, r, by omega, by omega, by omega⟩, fun ⟨p, q, r, s1, s2, s3⟩ => ⟨q, p, r, by omega, by omega, by omega⟩⟩⟩
set_option maxHeartbeats 4000000 in
theorem law_VecLines (x y z u v t a b c : Int)  (hk : Awake4) (w : World) :
    Calls Try.prog 8 #[.agg #[.int .i64 x, .int .i64 y, .int .i64 z], .agg #[.int .i64 u, .int .i64 v, .int .i64 t], .agg #[.int .i64 a, .int .i64 b, .int .i64 c]] w fun e w' => e = .returned (.bool true) ∧ Ext w w' := by
  obtain ⟨r, hr⟩ : ∃ r, LineIs x y z u v t a b c r := ⟨_, rfl⟩
  obtain ⟨h1, h2⟩ := lineIs_all hr
  have C0 := Lib.hid fun w => vec_Collinear x y z u v t a b c r hr w
  have R0 := Lib.hid fun w => additiveref04_Collinear x y z u v t a b c r hr w
  have C1 := Lib.hid fun w => vec_Collinear u v t a b c x y z r h1 w
  have C2 := Lib.hid fun w => vec_Collinear u v t x y z a b c r h2 w
  obtain ⟨W, hW, hx, hS⟩ := held9_new w x y z u v t a b c 23
  have HX := Lib.hid hx
  have KA := Lib.hid hk
  clear hr h1 h2 hk
  go_enter Try.func8, Try.ntmps8
  go_wp2_with fail
  clear hW hx
  refine (C0.out _).mono ?_; rintro e v1 ⟨rfl, g1⟩
  have K1 := held9 g1 hS
  have Y1 := Lib.hid (HX.out.trans g1)
  clear g1 hS
  go_wp2_with fail
  refine (R0.out _).mono ?_; rintro e v2 ⟨rfl, g2⟩
  have K2 := held9 g2 K1
  have Y2 := Lib.hid (Y1.out.trans g2)
  clear g2 K1
  go_wp2_with fail
  refine (C1.out _).mono ?_; rintro e v3 ⟨rfl, g3⟩
  have K3 := held9 g3 K2
  have Y3 := Lib.hid (Y2.out.trans g3)
  clear g3 K2
  go_wp2_with fail
  refine (C2.out _).mono ?_; rintro e v4 ⟨rfl, g4⟩
  have K4 := held9 g4 K3
  have Y4 := Lib.hid (Y3.out.trans g4)
  clear g4 K3
  go_wp2_with fail
  refine (KA.out _).mono ?_; rintro e w9 ⟨rfl, h9⟩
  go_wp2_with fail
  go_ret
  exact ⟨rfl, Y4.out.trans h9⟩
end Go.Proofs.Ytkppbkgjfkkelaa

