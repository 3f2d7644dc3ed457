/-
  The walk of the law VecLinear: it answers true, where the chapter's examples are reproduced; its argument, a struct of four vectors, opened and shut.
-/
import Derived.Test.YtkppbkgjfkkelaaLawDet
import Derived.ProofKit
import Derived.ChangeMaps5
import Derived.Lib.SmallJoins
import Derived.IntWalk
namespace Go.Proofs.Ytkppbkgjfkkelaa
open Go.RowKit
theorem held12 {W w1 : World} {B : Nat} {x y z u v t a b c d1 d2 d3 : Int} (h : Ext W w1) (hs : W.cell? ⟨B, 0, none⟩ = some (.int .i64 x) ∧ W.cell? ⟨B, 1, none⟩ = some (.int .i64 y) ∧ W.cell? ⟨B, 2, none⟩ = some (.int .i64 z) ∧ W.cell? ⟨B, 3, none⟩ = some (.int .i64 u) ∧ W.cell? ⟨B, 4, none⟩ = some (.int .i64 v) ∧ W.cell? ⟨B, 5, none⟩ = some (.int .i64 t) ∧ W.cell? ⟨B, 6, none⟩ = some (.int .i64 a) ∧ W.cell? ⟨B, 7, none⟩ = some (.int .i64 b) ∧ W.cell? ⟨B, 8, none⟩ = some (.int .i64 c) ∧ W.cell? ⟨B, 9, none⟩ = some (.int .i64 d1) ∧ W.cell? ⟨B, 10, none⟩ = some (.int .i64 d2) ∧ W.cell? ⟨B, 11, none⟩ = some (.int .i64 d3)) : w1.cell? ⟨B, 0, none⟩ = some (.int .i64 x) ∧ w1.cell? ⟨B, 1, none⟩ = some (.int .i64 y) ∧ w1.cell? ⟨B, 2, none⟩ = some (.int .i64 z) ∧ w1.cell? ⟨B, 3, none⟩ = some (.int .i64 u) ∧ w1.cell? ⟨B, 4, none⟩ = some (.int .i64 v) ∧ w1.cell? ⟨B, 5, none⟩ = some (.int .i64 t) ∧ w1.cell? ⟨B, 6, none⟩ = some (.int .i64 a) ∧ w1.cell? ⟨B, 7, none⟩ = some (.int .i64 b) ∧ w1.cell? ⟨B, 8, none⟩ = some (.int .i64 c) ∧ w1.cell? ⟨B, 9, none⟩ = some (.int .i64 d1) ∧ w1.cell? ⟨B, 10, none⟩ = some (.int .i64 d2) ∧ w1.cell? ⟨B, 11, none⟩ = some (.int .i64 d3) := by
  obtain ⟨h0, h1, h2, h3, h4, h5, h6, h7, h8, h9, h10, h11⟩ := hs
  exact ⟨h.keep h0, h.keep h1, h.keep h2, h.keep h3, h.keep h4, h.keep h5, h.keep h6, h.keep h7, h.keep h8, h.keep h9, h.keep h10, h.keep h11⟩
theorem held12_new (w : World) (x y z u v t a b c d1 d2 d3 : Int) (T : TypeId) : ∃ W, w.alloc (.cells #[.int .i64 x, .int .i64 y, .int .i64 z, .int .i64 u, .int .i64 v, .int .i64 t, .int .i64 a, .int .i64 b, .int .i64 c, .int .i64 d1, .int .i64 d2, .int .i64 d3] T) = W ∧ Ext w W ∧ (W.cell? ⟨w.heap.size, 0, none⟩ = some (.int .i64 x) ∧ W.cell? ⟨w.heap.size, 1, none⟩ = some (.int .i64 y) ∧ W.cell? ⟨w.heap.size, 2, none⟩ = some (.int .i64 z) ∧ W.cell? ⟨w.heap.size, 3, none⟩ = some (.int .i64 u) ∧ W.cell? ⟨w.heap.size, 4, none⟩ = some (.int .i64 v) ∧ W.cell? ⟨w.heap.size, 5, none⟩ = some (.int .i64 t) ∧ W.cell? ⟨w.heap.size, 6, none⟩ = some (.int .i64 a) ∧ W.cell? ⟨w.heap.size, 7, none⟩ = some (.int .i64 b) ∧ W.cell? ⟨w.heap.size, 8, none⟩ = some (.int .i64 c) ∧ W.cell? ⟨w.heap.size, 9, none⟩ = some (.int .i64 d1) ∧ W.cell? ⟨w.heap.size, 10, none⟩ = some (.int .i64 d2) ∧ W.cell? ⟨w.heap.size, 11, none⟩ = some (.int .i64 d3)) := by
  refine ⟨_, rfl, (Ext.refl w).alloc _, ?_, ?_, ?_, ?_, ?_, ?_, ?_, ?_, ?_, ?_, ?_, ?_⟩ <;> go_simp
theorem det_sub (x y z u v t a b c d1 d2 d3 : Int) : det3 (x - u) (y - v) (z - t) a b c d1 d2 d3 = det3 x y z a b c d1 d2 d3 - det3 u v t a b c d1 d2 d3 := by unfold det3; grind
theorem in3_more {x y z : Int} (h : In3 65536 x y z) : In3 131072 x y z := by unfold In3 at *; omega
set_option maxHeartbeats 2000000 in
theorem law_VecLinear_no1 (x y z u v t a b c d1 d2 d3 : Int) (i1 : ¬ In3 65536 x y z) (hk : Awake4) (w : World) :
    Calls Try.prog 5 #[.agg #[.int .i64 x, .int .i64 y, .int .i64 z, .int .i64 u, .int .i64 v, .int .i64 t, .int .i64 a, .int .i64 b, .int .i64 c, .int .i64 d1, .int .i64 d2, .int .i64 d3]] w fun e w' => e = .returned (.bool true) ∧ Ext w w' := by
  have E1 := Lib.hid fun w => vec_Valid x y z false (by rw [decide_eq_false i1]) w
  obtain ⟨W, hW, hx, hS⟩ := held12_new w x y z u v t a b c d1 d2 d3 32
  have HX := Lib.hid hx
  have KA := Lib.hid hk
  clear i1 hk
  go_enter Try.func5, Try.ntmps5
  go_wp2_with fail
  clear hW hx
  refine (E1.out _).mono ?_; rintro e v1 ⟨rfl, g1⟩
  have K1 := held12 g1 hS
  have Y1 := Lib.hid (HX.out.trans g1)
  clear g1 hS
  go_wp2_with fail
  refine (KA.out _).mono ?_; rintro e w9 ⟨rfl, h9⟩
  go_wp2_with fail
  go_ret
  exact ⟨rfl, Y1.out.trans h9⟩
set_option maxHeartbeats 2000000 in
theorem law_VecLinear_no2 (x y z u v t a b c d1 d2 d3 : Int) (i1 : In3 65536 x y z) (i2 : ¬ In3 65536 u v t) (hk : Awake4) (w : World) :
    Calls Try.prog 5 #[.agg #[.int .i64 x, .int .i64 y, .int .i64 z, .int .i64 u, .int .i64 v, .int .i64 t, .int .i64 a, .int .i64 b, .int .i64 c, .int .i64 d1, .int .i64 d2, .int .i64 d3]] w fun e w' => e = .returned (.bool true) ∧ Ext w w' := by
  have E1 := Lib.hid fun w => vec_Valid x y z true (by rw [decide_eq_true i1]) w
  have E2 := Lib.hid fun w => vec_Valid u v t false (by rw [decide_eq_false i2]) w
  obtain ⟨W, hW, hx, hS⟩ := held12_new w x y z u v t a b c d1 d2 d3 32
  have HX := Lib.hid hx
  have KA := Lib.hid hk
  clear i1 i2 hk
  go_enter Try.func5, Try.ntmps5
  go_wp2_with fail
  clear hW hx
  refine (E1.out _).mono ?_; rintro e v1 ⟨rfl, g1⟩
  have K1 := held12 g1 hS
  have Y1 := Lib.hid (HX.out.trans g1)
  clear g1 hS
  go_wp2_with fail
  refine (E2.out _).mono ?_; rintro e v2 ⟨rfl, g2⟩
  have K2 := held12 g2 K1
  have Y2 := Lib.hid (Y1.out.trans g2)
  clear g2 K1
  go_wp2_with fail
  refine (KA.out _).mono ?_; rintro e w9 ⟨rfl, h9⟩
  go_wp2_with fail
  go_ret
  exact ⟨rfl, Y2.out.trans h9⟩
set_option maxHeartbeats 2000000 in
theorem law_VecLinear_no3 (x y z u v t a b c d1 d2 d3 : Int) (i1 : In3 65536 x y z) (i2 : In3 65536 u v t) (i3 : ¬ In3 65536 a b c) (hk : Awake4) (w : World) :
    Calls Try.prog 5 #[.agg #[.int .i64 x, .int .i64 y, .int .i64 z, .int .i64 u, .int .i64 v, .int .i64 t, .int .i64 a, .int .i64 b, .int .i64 c, .int .i64 d1, .int .i64 d2, .int .i64 d3]] w fun e w' => e = .returned (.bool true) ∧ Ext w w' := by
  have E1 := Lib.hid fun w => vec_Valid x y z true (by rw [decide_eq_true i1]) w
  have E2 := Lib.hid fun w => vec_Valid u v t true (by rw [decide_eq_true i2]) w
  have E3 := Lib.hid fun w => vec_Valid a b c false (by rw [decide_eq_false i3]) w
  obtain ⟨W, hW, hx, hS⟩ := held12_new w x y z u v t a b c d1 d2 d3 32
  have HX := Lib.hid hx
  have KA := Lib.hid hk
  clear i1 i2 i3 hk
  go_enter Try.func5, Try.ntmps5
  go_wp2_with fail
  clear hW hx
  refine (E1.out _).mono ?_; rintro e v1 ⟨rfl, g1⟩
  have K1 := held12 g1 hS
  have Y1 := Lib.hid (HX.out.trans g1)
  clear g1 hS
  go_wp2_with fail
  refine (E2.out _).mono ?_; rintro e v2 ⟨rfl, g2⟩
  have K2 := held12 g2 K1
  have Y2 := Lib.hid (Y1.out.trans g2)
  clear g2 K1
  go_wp2_with fail
  refine (E3.out _).mono ?_; rintro e v3 ⟨rfl, g3⟩
  have K3 := held12 g3 K2
  have Y3 := Lib.hid (Y2.out.trans g3)
  clear g3 K2
  go_wp2_with fail
  refine (KA.out _).mono ?_; rintro e w9 ⟨rfl, h9⟩
  go_wp2_with fail
  go_ret
  exact ⟨rfl, Y3.out.trans h9⟩
set_option maxHeartbeats 2000000 in
theorem law_VecLinear_no4 (x y z u v t a b c d1 d2 d3 : Int) (i1 : In3 65536 x y z) (i2 : In3 65536 u v t) (i3 : In3 65536 a b c) (i4 : ¬ In3 65536 d1 d2 d3) (hk : Awake4) (w : World) :
    Calls Try.prog 5 #[.agg #[.int .i64 x, .int .i64 y, .int .i64 z, .int .i64 u, .int .i64 v, .int .i64 t, .int .i64 a, .int .i64 b, .int .i64 c, .int .i64 d1, .int .i64 d2, .int .i64 d3]] w fun e w' => e = .returned (.bool true) ∧ Ext w w' := by
  have E1 := Lib.hid fun w => vec_Valid x y z true (by rw [decide_eq_true i1]) w
  have E2 := Lib.hid fun w => vec_Valid u v t true (by rw [decide_eq_true i2]) w
  have E3 := Lib.hid fun w => vec_Valid a b c true (by rw [decide_eq_true i3]) w
  have E4 := Lib.hid fun w => vec_Valid d1 d2 d3 false (by rw [decide_eq_false i4]) w
  obtain ⟨W, hW, hx, hS⟩ := held12_new w x y z u v t a b c d1 d2 d3 32
  have HX := Lib.hid hx
  have KA := Lib.hid hk
  clear i1 i2 i3 i4 hk
  go_enter Try.func5, Try.ntmps5
  go_wp2_with fail
  clear hW hx
  refine (E1.out _).mono ?_; rintro e v1 ⟨rfl, g1⟩
  have K1 := held12 g1 hS
  have Y1 := Lib.hid (HX.out.trans g1)
  clear g1 hS
  go_wp2_with fail
  refine (E2.out _).mono ?_; rintro e v2 ⟨rfl, g2⟩
  have K2 := held12 g2 K1
  have Y2 := Lib.hid (Y1.out.trans g2)
  clear g2 K1
  go_wp2_with fail
  refine (E3.out _).mono ?_; rintro e v3 ⟨rfl, g3⟩
  have K3 := held12 g3 K2
  have Y3 := Lib.hid (Y2.out.trans g3)
  clear g3 K2
  go_wp2_with fail
  refine (E4.out _).mono ?_; rintro e v4 ⟨rfl, g4⟩
  have K4 := held12 g4 K3
  have Y4 := Lib.hid (Y3.out.trans g4)
  clear g4 K3
  go_wp2_with fail
  refine (KA.out _).mono ?_; rintro e w9 ⟨rfl, h9⟩
  go_wp2_with fail
  go_ret
  exact ⟨rfl, Y4.out.trans h9⟩
set_option maxHeartbeats 4000000 in
theorem law_VecLinear_yes (x y z u v t a b c d1 d2 d3 : Int) (i1 : In3 65536 x y z) (i2 : In3 65536 u v t) (i3 : In3 65536 a b c) (i4 : In3 65536 d1 d2 d3) (hk : Awake4) (w : World) :
    Calls Try.prog 5 #[.agg #[.int .i64 x, .int .i64 y, .int .i64 z, .int .i64 u, .int .i64 v, .int .i64 t, .int .i64 a, .int .i64 b, .int .i64 c, .int .i64 d1, .int .i64 d2, .int .i64 d3]] w fun e w' => e = .returned (.bool true) ∧ Ext w w' := by
  have E1 := Lib.hid fun w => vec_Valid x y z true (by rw [decide_eq_true i1]) w
  have E2 := Lib.hid fun w => vec_Valid u v t true (by rw [decide_eq_true i2]) w
  have E3 := Lib.hid fun w => vec_Valid a b c true (by rw [decide_eq_true i3]) w
  have E4 := Lib.hid fun w => vec_Valid d1 d2 d3 true (by rw [decide_eq_true i4]) w
  have hsb : SubIs x y z u v t (x - u) (y - v) (z - t) := .inl ⟨i1, i2, rfl, rfl, rfl⟩
  have j0 : In3 131072 (x - u) (y - v) (z - t) := by unfold In3 at *; omega
  have q2 : DetIs x y z a b c d1 d2 d3 (det3 x y z a b c d1 d2 d3) := .inl ⟨in3_more i1, in3_more i3, in3_more i4, rfl⟩
  have q3 : DetIs u v t a b c d1 d2 d3 (det3 u v t a b c d1 d2 d3) := .inl ⟨in3_more i2, in3_more i3, in3_more i4, rfl⟩
  have q1 : DetIs (x - u) (y - v) (z - t) a b c d1 d2 d3 (det3 x y z a b c d1 d2 d3 - det3 u v t a b c d1 d2 d3) := .inl ⟨j0, in3_more i3, in3_more i4, (det_sub _ _ _ _ _ _ _ _ _ _ _ _).symm⟩
  obtain ⟨m1, m2⟩ := detIs_bound q2
  obtain ⟨m3, m4⟩ := detIs_bound q3
  generalize det3 x y z a b c d1 d2 d3 = r2 at *
  generalize det3 u v t a b c d1 d2 d3 = r3 at *
  have hw : IntKind.i64.wrap (r2 - r3) = r2 - r3 := IntWalk.i64_in _ (by omega)
  have CS := Lib.hid fun w => vec_Sub x y z u v t _ _ _ hsb w
  have C1 := Lib.hid fun w => vec_Det _ _ _ a b c d1 d2 d3 _ q1 w
  have C2 := Lib.hid fun w => vec_Det x y z a b c d1 d2 d3 _ q2 w
  have C3 := Lib.hid fun w => vec_Det u v t a b c d1 d2 d3 _ q3 w
  obtain ⟨W, hW, hx, hS⟩ := held12_new w x y z u v t a b c d1 d2 d3 32
  have HX := Lib.hid hx
  have KA := Lib.hid hk
  clear i1 i2 i3 i4 hk hsb j0 q1 q2 q3
  go_enter Try.func5, Try.ntmps5
  go_wp2_with fail
  clear hW hx
  refine (E1.out _).mono ?_; rintro e v1 ⟨rfl, g1⟩
  have K1 := held12 g1 hS
  have Y1 := Lib.hid (HX.out.trans g1)
  clear g1 hS
  go_wp2_with fail
  refine (E2.out _).mono ?_; rintro e v2 ⟨rfl, g2⟩
  have K2 := held12 g2 K1
  have Y2 := Lib.hid (Y1.out.trans g2)
  clear g2 K1
  go_wp2_with fail
  refine (E3.out _).mono ?_; rintro e v3 ⟨rfl, g3⟩
  have K3 := held12 g3 K2
  have Y3 := Lib.hid (Y2.out.trans g3)
  clear g3 K2
  go_wp2_with fail
  refine (E4.out _).mono ?_; rintro e v4 ⟨rfl, g4⟩
  have K4 := held12 g4 K3
  have Y4 := Lib.hid (Y3.out.trans g4)
  clear g4 K3
  go_wp2_with fail
  refine wp_region_held_drew (S := fun w' => w'.cell? ⟨w.heap.size, 0, none⟩ = some (.int .i64 x) ∧ w'.cell? ⟨w.heap.size, 1, none⟩ = some (.int .i64 y) ∧ w'.cell? ⟨w.heap.size, 2, none⟩ = some (.int .i64 z) ∧ w'.cell? ⟨w.heap.size, 3, none⟩ = some (.int .i64 u) ∧ w'.cell? ⟨w.heap.size, 4, none⟩ = some (.int .i64 v) ∧ w'.cell? ⟨w.heap.size, 5, none⟩ = some (.int .i64 t) ∧ w'.cell? ⟨w.heap.size, 6, none⟩ = some (.int .i64 a) ∧ w'.cell? ⟨w.heap.size, 7, none⟩ = some (.int .i64 b) ∧ w'.cell? ⟨w.heap.size, 8, none⟩ = some (.int .i64 c) ∧ w'.cell? ⟨w.heap.size, 9, none⟩ = some (.int .i64 d1) ∧ w'.cell? ⟨w.heap.size, 10, none⟩ = some (.int .i64 d2) ∧ w'.cell? ⟨w.heap.size, 11, none⟩ = some (.int .i64 d3)) (by kernel_rfl) (by (try dsimp only); first | assumption | go_keep) (fun hHeld => ?_)
  refine htake (i := 0) (v := ?_) (some 26) rfl rfl (by kernel_rfl) (by kernel_rfl) (by kernel_rfl) (fun _ _ _ h => h) (Or.inl ⟨by rfl, ?_⟩) (by assumption) ?_; rotate_left; (focus (intro w hSw; (try dsimp only at hSw); go_simp; (try with_reducible rfl))); (try simp only [Act.put]); (try simp only [List.setIfInBounds_toArray]); (try simp only [List.set_cons_succ]); (try simp only [List.set_cons_zero])
  refine htake (i := 1) (v := ?_) (some 27) rfl rfl (by kernel_rfl) (by kernel_rfl) (by kernel_rfl) (fun _ _ _ h => h) (Or.inl ⟨by rfl, ?_⟩) (by assumption) ?_; rotate_left; (focus (intro w hSw; (try dsimp only at hSw); go_simp; (try with_reducible rfl))); (try simp only [Act.put]); (try simp only [List.setIfInBounds_toArray]); (try simp only [List.set_cons_succ]); (try simp only [List.set_cons_zero])
  refine htake (i := 2) (v := ?_) (some 28) rfl rfl (by kernel_rfl) (by kernel_rfl) (by kernel_rfl) (fun _ _ _ h => h) (Or.inl ⟨by rfl, ?_⟩) (by assumption) ?_; rotate_left; (focus (intro w hSw; (try dsimp only at hSw); go_simp; (try with_reducible rfl))); (try simp only [Act.put]); (try simp only [List.setIfInBounds_toArray]); (try simp only [List.set_cons_succ]); (try simp only [List.set_cons_zero])
  refine htake (i := 3) (v := ?_) (some 29) rfl rfl (by kernel_rfl) (by kernel_rfl) (by kernel_rfl) (fun _ _ _ h => h) (Or.inl ⟨by rfl, ?_⟩) (by assumption) ?_; rotate_left; (focus (intro w hSw; (try dsimp only at hSw); go_simp; (try with_reducible rfl))); (try simp only [Act.put]); (try simp only [List.setIfInBounds_toArray]); (try simp only [List.set_cons_succ]); (try simp only [List.set_cons_zero])
  refine htake (i := 5) (v := ?_) (some 31) rfl rfl (by kernel_rfl) (by kernel_rfl) (by kernel_rfl) (fun _ _ _ h => h) (Or.inl ⟨by rfl, ?_⟩) (by assumption) ?_; rotate_left; (focus (intro w hSw; (try dsimp only at hSw); go_simp; (try with_reducible rfl))); (try simp only [Act.put]); (try simp only [List.setIfInBounds_toArray]); (try simp only [List.set_cons_succ]); (try simp only [List.set_cons_zero])
  refine htake (i := 6) (v := ?_) (some 32) rfl rfl (by kernel_rfl) (by kernel_rfl) (by kernel_rfl) (fun _ _ _ h => h) (Or.inl ⟨by rfl, ?_⟩) (by assumption) ?_; rotate_left; (focus (intro w hSw; (try dsimp only at hSw); go_simp; (try with_reducible rfl))); (try simp only [Act.put]); (try simp only [List.setIfInBounds_toArray]); (try simp only [List.set_cons_succ]); (try simp only [List.set_cons_zero])
  refine htake (i := 7) (v := ?_) (some 33) rfl rfl (by kernel_rfl) (by kernel_rfl) (by kernel_rfl) (fun _ _ _ h => h) (Or.inl ⟨by rfl, ?_⟩) (by assumption) ?_; rotate_left; (focus (intro w hSw; (try dsimp only at hSw); go_simp; (try with_reducible rfl))); (try simp only [Act.put]); (try simp only [List.setIfInBounds_toArray]); (try simp only [List.set_cons_succ]); (try simp only [List.set_cons_zero])
  refine htake (i := 8) (v := ?_) (some 34) rfl rfl (by kernel_rfl) (by kernel_rfl) (by kernel_rfl) (fun _ _ _ h => h) (Or.inl ⟨by rfl, ?_⟩) (by assumption) ?_; rotate_left; (focus (intro w hSw; (try dsimp only at hSw); go_simp; (try with_reducible rfl))); (try simp only [Act.put]); (try simp only [List.setIfInBounds_toArray]); (try simp only [List.set_cons_succ]); (try simp only [List.set_cons_zero])
  refine htake (i := 10) (v := ?_) (some 36) rfl rfl (by kernel_rfl) (by kernel_rfl) (by kernel_rfl) (fun _ _ _ h => h) (Or.inl ⟨by rfl, ?_⟩) (by assumption) ?_; rotate_left; (focus (intro w hSw; (try dsimp only at hSw); go_simp; (try with_reducible rfl))); (try simp only [Act.put]); (try simp only [List.setIfInBounds_toArray]); (try simp only [List.set_cons_succ]); (try simp only [List.set_cons_zero])
  refine htake (i := 11) (v := ?_) (some 37) rfl rfl (by kernel_rfl) (by kernel_rfl) (by kernel_rfl) (fun _ _ _ h => h) (Or.inl ⟨by rfl, ?_⟩) (by assumption) ?_; rotate_left; (focus (intro w hSw; (try dsimp only at hSw); go_simp; (try with_reducible rfl))); (try simp only [Act.put]); (try simp only [List.setIfInBounds_toArray]); (try simp only [List.set_cons_succ]); (try simp only [List.set_cons_zero])
  refine htake (i := 12) (v := ?_) (some 38) rfl rfl (by kernel_rfl) (by kernel_rfl) (by kernel_rfl) (fun _ _ _ h => h) (Or.inl ⟨by rfl, ?_⟩) (by assumption) ?_; rotate_left; (focus (intro w hSw; (try dsimp only at hSw); go_simp; (try with_reducible rfl))); (try simp only [Act.put]); (try simp only [List.setIfInBounds_toArray]); (try simp only [List.set_cons_succ]); (try simp only [List.set_cons_zero])
  refine htake (i := 13) (v := ?_) (some 39) rfl rfl (by kernel_rfl) (by kernel_rfl) (by kernel_rfl) (fun _ _ _ h => h) (Or.inl ⟨by rfl, ?_⟩) (by assumption) ?_; rotate_left; (focus (intro w hSw; (try dsimp only at hSw); go_simp; (try with_reducible rfl))); (try simp only [Act.put]); (try simp only [List.setIfInBounds_toArray]); (try simp only [List.set_cons_succ]); (try simp only [List.set_cons_zero])
  refine htake (i := 14) (v := ?_) (some 40) rfl rfl (by kernel_rfl) (by kernel_rfl) (by kernel_rfl) (fun _ _ _ h => h) (Or.inl ⟨by rfl, ?_⟩) (by assumption) ?_; rotate_left; (focus (intro w hSw; (try dsimp only at hSw); go_simp; (try with_reducible rfl))); (try simp only [Act.put]); (try simp only [List.setIfInBounds_toArray]); (try simp only [List.set_cons_succ]); (try simp only [List.set_cons_zero])
  refine htake (i := 15) (v := ?_) (some 41) rfl rfl (by kernel_rfl) (by kernel_rfl) (by kernel_rfl) (fun _ _ _ h => h) (Or.inl ⟨by rfl, ?_⟩) (by assumption) ?_; rotate_left; (focus (intro w hSw; (try dsimp only at hSw); go_simp; (try with_reducible rfl))); (try simp only [Act.put]); (try simp only [List.setIfInBounds_toArray]); (try simp only [List.set_cons_succ]); (try simp only [List.set_cons_zero])
  refine htake (i := 17) (v := ?_) (some 43) rfl rfl (by kernel_rfl) (by kernel_rfl) (by kernel_rfl) (fun _ _ _ h => h) (Or.inl ⟨by rfl, ?_⟩) (by assumption) ?_; rotate_left; (focus (intro w hSw; (try dsimp only at hSw); go_simp; (try with_reducible rfl))); (try simp only [Act.put]); (try simp only [List.setIfInBounds_toArray]); (try simp only [List.set_cons_succ]); (try simp only [List.set_cons_zero])
  refine htake (i := 18) (v := ?_) (some 44) rfl rfl (by kernel_rfl) (by kernel_rfl) (by kernel_rfl) (fun _ _ _ h => h) (Or.inl ⟨by rfl, ?_⟩) (by assumption) ?_; rotate_left; (focus (intro w hSw; (try dsimp only at hSw); go_simp; (try with_reducible rfl))); (try simp only [Act.put]); (try simp only [List.setIfInBounds_toArray]); (try simp only [List.set_cons_succ]); (try simp only [List.set_cons_zero])
  refine htake (i := 19) (v := ?_) (some 45) rfl rfl (by kernel_rfl) (by kernel_rfl) (by kernel_rfl) (fun _ _ _ h => h) (Or.inl ⟨by rfl, ?_⟩) (by assumption) ?_; rotate_left; (focus (intro w hSw; (try dsimp only at hSw); go_simp; (try with_reducible rfl))); (try simp only [Act.put]); (try simp only [List.setIfInBounds_toArray]); (try simp only [List.set_cons_succ]); (try simp only [List.set_cons_zero])
  refine htake (i := 20) (v := ?_) (some 46) rfl rfl (by kernel_rfl) (by kernel_rfl) (by kernel_rfl) (fun _ _ _ h => h) (Or.inl ⟨by rfl, ?_⟩) (by assumption) ?_; rotate_left; (focus (intro w hSw; (try dsimp only at hSw); go_simp; (try with_reducible rfl))); (try simp only [Act.put]); (try simp only [List.setIfInBounds_toArray]); (try simp only [List.set_cons_succ]); (try simp only [List.set_cons_zero])
  refine htake (i := 21) (v := ?_) (some 47) rfl rfl (by kernel_rfl) (by kernel_rfl) (by kernel_rfl) (fun _ _ _ h => h) (Or.inl ⟨by rfl, ?_⟩) (by assumption) ?_; rotate_left; (focus (intro w hSw; (try dsimp only at hSw); go_simp; (try with_reducible rfl))); (try simp only [Act.put]); (try simp only [List.setIfInBounds_toArray]); (try simp only [List.set_cons_succ]); (try simp only [List.set_cons_zero])
  refine htake (i := 22) (v := ?_) (some 48) rfl rfl (by kernel_rfl) (by kernel_rfl) (by kernel_rfl) (fun _ _ _ h => h) (Or.inl ⟨by rfl, ?_⟩) (by assumption) ?_; rotate_left; (focus (intro w hSw; (try dsimp only at hSw); go_simp; (try with_reducible rfl))); (try simp only [Act.put]); (try simp only [List.setIfInBounds_toArray]); (try simp only [List.set_cons_succ]); (try simp only [List.set_cons_zero])
  refine wpAnyH_ready (rs := [4]) (by kernel_rfl) (by simp) ?_
  refine AllReadyH.cons rfl (fun K hK => ?_) AllReadyH.nil
  go_simp
  refine (CS.out _).mono ?_; rintro e o0 ⟨rfl, f0⟩; have M0 := held12 f0 (by assumption)
  (try go_wp2_with fail)
  refine hK.out _ _ ?_ (fun hHeld => ?_)
  · (try dsimp only); first | assumption | go_keep
  clear hK K
  (try simp only [Act.put]); (try simp only [List.setIfInBounds_toArray]); (try simp only [List.set_cons_succ]); (try simp only [List.set_cons_zero])
  refine wpAnyH_ready (rs := [9]) (by kernel_rfl) (by simp) ?_
  refine AllReadyH.cons rfl (fun K hK => ?_) AllReadyH.nil
  go_simp
  refine (C1.out _).mono ?_; rintro e o1 ⟨rfl, f1⟩; have M1 := held12 f1 (by assumption)
  (try go_wp2_with fail)
  refine hK.out _ _ ?_ (fun hHeld => ?_)
  · (try dsimp only); first | assumption | go_keep
  clear hK K
  (try simp only [Act.put]); (try simp only [List.setIfInBounds_toArray]); (try simp only [List.set_cons_succ]); (try simp only [List.set_cons_zero])
  refine wpAnyH_ready (rs := [16]) (by kernel_rfl) (by simp) ?_
  refine AllReadyH.cons rfl (fun K hK => ?_) AllReadyH.nil
  go_simp
  refine (C2.out _).mono ?_; rintro e o2 ⟨rfl, f2⟩; have M2 := held12 f2 (by assumption)
  (try go_wp2_with fail)
  refine hK.out _ _ ?_ (fun hHeld => ?_)
  · (try dsimp only); first | assumption | go_keep
  clear hK K
  (try simp only [Act.put]); (try simp only [List.setIfInBounds_toArray]); (try simp only [List.set_cons_succ]); (try simp only [List.set_cons_zero])
  refine wpAnyH_ready (rs := [23]) (by kernel_rfl) (by simp) ?_
  refine AllReadyH.cons rfl (fun K hK => ?_) AllReadyH.nil
  go_simp
  refine (C3.out _).mono ?_; rintro e o3 ⟨rfl, f3⟩; have M3 := held12 f3 (by assumption)
  (try go_wp2_with fail)
  refine hK.out _ _ ?_ (fun hHeld => ?_)
  · (try dsimp only); first | assumption | go_keep
  clear hK K
  (try simp only [Act.put]); (try simp only [List.setIfInBounds_toArray]); (try simp only [List.set_cons_succ]); (try simp only [List.set_cons_zero])
  refine htake (i := 24) (v := ?_) (some 50) rfl rfl (by kernel_rfl) (by kernel_rfl) (by kernel_rfl) (fun _ _ _ h => h) (Or.inl ⟨by rfl, ?_⟩) (by assumption) ?_; rotate_left; (focus (intro w hSw; (try dsimp only at hSw); go_simp; (try with_reducible rfl))); (try simp only [Act.put]); (try simp only [List.setIfInBounds_toArray]); (try simp only [List.set_cons_succ]); (try simp only [List.set_cons_zero])
  refine htake (i := 25) (v := ?_) (some 51) rfl rfl (by kernel_rfl) (by kernel_rfl) (by kernel_rfl) (fun _ _ _ h => h) (Or.inl ⟨by rfl, ?_⟩) (by assumption) ?_; rotate_left; (focus (intro w hSw; (try dsimp only at hSw); go_simp; (try with_reducible rfl))); (try simp only [Act.put]); (try simp only [List.setIfInBounds_toArray]); (try simp only [List.set_cons_succ]); (try simp only [List.set_cons_zero])
  refine htake (i := 26) (v := ?_) (some 52) rfl rfl (by kernel_rfl) (by kernel_rfl) (by kernel_rfl) (fun _ _ _ h => h) (Or.inl ⟨by rfl, ?_⟩) (by assumption) ?_; rotate_left; (focus (intro w hSw; (try dsimp only at hSw); go_simp; (try with_reducible rfl))); (try simp only [Act.put]); (try simp only [List.setIfInBounds_toArray]); (try simp only [List.set_cons_succ]); (try simp only [List.set_cons_zero])
  refine wpAnyH_ready (rs := [27]) (by kernel_rfl) (by simp) ?_
  refine AllReadyH.cons rfl (fun K hK => ?_) AllReadyH.nil
  go_simp
  refine (KA.out _).mono ?_; rintro e o4 ⟨rfl, f4⟩; have M4 := held12 f4 (by assumption)
  (try go_wp2_with fail)
  refine hK.out _ _ ?_ (fun hHeld => ?_)
  · (try dsimp only); first | assumption | go_keep
  clear hK K
  (try simp only [Act.put]); (try simp only [List.setIfInBounds_toArray]); (try simp only [List.set_cons_succ]); (try simp only [List.set_cons_zero])
  refine htake (i := 28) (v := ?_) (some 54) rfl rfl (by kernel_rfl) (by kernel_rfl) (by kernel_rfl) (fun _ _ _ h => h) (Or.inl ⟨by rfl, ?_⟩) (by assumption) ?_; rotate_left; (focus (intro w hSw; (try dsimp only at hSw); go_simp; (try with_reducible rfl))); (try simp only [Act.put]); (try simp only [List.setIfInBounds_toArray]); (try simp only [List.set_cons_succ]); (try simp only [List.set_cons_zero])
  refine htake (i := 29) (v := ?_) (some 2) rfl rfl (by kernel_rfl) (by kernel_rfl) (by kernel_rfl) (fun _ _ _ h => h) (Or.inl ⟨by rfl, ?_⟩) (by assumption) ?_; rotate_left; (focus (intro w hSw; (try dsimp only at hSw); go_simp; (try with_reducible rfl))); (try simp only [Act.put]); (try simp only [List.setIfInBounds_toArray]); (try simp only [List.set_cons_succ]); (try simp only [List.set_cons_zero])
  refine wpAnyH_done (by kernel_rfl) ?_ _
  go_wp2_with fail
  go_ret
  exact ⟨rfl, (((((Y4.out.drew.trans f0).trans f1).trans f2).trans f3).trans f4)⟩
theorem law_VecLinear (x y z u v t a b c d1 d2 d3 : Int) (hk : Awake4) (w : World) :
    Calls Try.prog 5 #[.agg #[.int .i64 x, .int .i64 y, .int .i64 z, .int .i64 u, .int .i64 v, .int .i64 t, .int .i64 a, .int .i64 b, .int .i64 c, .int .i64 d1, .int .i64 d2, .int .i64 d3]] w fun e w' => e = .returned (.bool true) ∧ Ext w w' := by
  by_cases i1 : In3 65536 x y z
  · by_cases i2 : In3 65536 u v t
    · by_cases i3 : In3 65536 a b c
      · by_cases i4 : In3 65536 d1 d2 d3
        · exact law_VecLinear_yes x y z u v t a b c d1 d2 d3 i1 i2 i3 i4 hk w
        · exact law_VecLinear_no4 x y z u v t a b c d1 d2 d3 i1 i2 i3 i4 hk w
      · exact law_VecLinear_no3 x y z u v t a b c d1 d2 d3 i1 i2 i3 hk w
    · exact law_VecLinear_no2 x y z u v t a b c d1 d2 d3 i1 i2 hk w
  · exact law_VecLinear_no1 x y z u v t a b c d1 d2 d3 i1 hk w
end Go.Proofs.Ytkppbkgjfkkelaa

