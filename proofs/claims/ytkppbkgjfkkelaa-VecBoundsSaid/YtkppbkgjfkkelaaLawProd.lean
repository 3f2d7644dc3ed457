/-
  The walk of the law VecProducts: it answers true, where the chapter's examples are reproduced.
-/
import Derived.Test.YtkppbkgjfkkelaaLawV
namespace Go.Proofs.Ytkppbkgjfkkelaa
open Go.RowKit
theorem law_small4 (x y z : Int) (b : Bool) (hb : b = decide (In3 131072 x y z)) (w : World) :
    Calls Try.prog 17 #[.agg #[.int .i64 x, .int .i64 y, .int .i64 z]] w fun e w' => e = .returned (.bool b) ∧ Ext w w' := by
  have HB := Lib.hid hb; clear hb
  go_enter Try.func17, Try.ntmps17
  go_wp2_with fail
  all_goals
    go_ret
    refine ⟨ret_b (Eq.symm ?_), (Ext.refl _).alloc _⟩
    rw [HB.out]
    first
    | exact decide_eq_false (by unfold In3; omega)
    | (rw [decide_eq_decide]; unfold In3; omega)
theorem held6 {W w1 : World} {B0 B1 : Nat} {x y z u v t : Int} (h : Ext W w1) (hs : W.cell? ⟨B0, 0, none⟩ = some (.int .i64 x) ∧ W.cell? ⟨B0, 1, none⟩ = some (.int .i64 y) ∧ W.cell? ⟨B0, 2, none⟩ = some (.int .i64 z) ∧ W.cell? ⟨B1, 0, none⟩ = some (.int .i64 u) ∧ W.cell? ⟨B1, 1, none⟩ = some (.int .i64 v) ∧ W.cell? ⟨B1, 2, none⟩ = some (.int .i64 t)) : w1.cell? ⟨B0, 0, none⟩ = some (.int .i64 x) ∧ w1.cell? ⟨B0, 1, none⟩ = some (.int .i64 y) ∧ w1.cell? ⟨B0, 2, none⟩ = some (.int .i64 z) ∧ w1.cell? ⟨B1, 0, none⟩ = some (.int .i64 u) ∧ w1.cell? ⟨B1, 1, none⟩ = some (.int .i64 v) ∧ w1.cell? ⟨B1, 2, none⟩ = some (.int .i64 t) := by
  obtain ⟨h0, h1, h2, h3, h4, h5⟩ := hs
  exact ⟨h.keep h0, h.keep h1, h.keep h2, h.keep h3, h.keep h4, h.keep h5⟩
theorem held6_new (w : World) (x y z u v t : Int) (T : TypeId) : ∃ W, ((w.alloc (.cells #[.int .i64 x, .int .i64 y, .int .i64 z] T)).alloc (.cells #[.int .i64 u, .int .i64 v, .int .i64 t] T)) = W ∧ Ext w W ∧ (W.cell? ⟨w.heap.size, 0, none⟩ = some (.int .i64 x) ∧ W.cell? ⟨w.heap.size, 1, none⟩ = some (.int .i64 y) ∧ W.cell? ⟨w.heap.size, 2, none⟩ = some (.int .i64 z) ∧ W.cell? ⟨w.heap.size + 1, 0, none⟩ = some (.int .i64 u) ∧ W.cell? ⟨w.heap.size + 1, 1, none⟩ = some (.int .i64 v) ∧ W.cell? ⟨w.heap.size + 1, 2, none⟩ = some (.int .i64 t)) := by
  refine ⟨_, rfl, ((Ext.refl w).alloc _).alloc _, ?_, ?_, ?_, ?_, ?_, ?_⟩ <;> go_simp
theorem orth1 (x y z u v t : Int) : x * (y * t - z * v) + y * (z * u - x * t) + z * (x * v - y * u) = 0 := by grind
theorem orth2 (x y z u v t : Int) : u * (y * t - z * v) + v * (z * u - x * t) + t * (x * v - y * u) = 0 := by grind
set_option maxHeartbeats 4000000 in
theorem law_VecProducts_ss (x y z u v t : Int) (i1 : In3 131072 x y z) (i2 : In3 131072 u v t) (hk : Awake4) (w : World) :
    Calls Try.prog 3 #[.agg #[.int .i64 x, .int .i64 y, .int .i64 z], .agg #[.int .i64 u, .int .i64 v, .int .i64 t]] w fun e w' => e = .returned (.bool true) ∧ Ext w w' := by
  obtain ⟨b1, hb1⟩ : ∃ b1, b1 = decide (In3 65536 x y z) := ⟨_, rfl⟩
  obtain ⟨d1, d2, d3, hd⟩ := subIs_ex x y z u v t
  obtain ⟨p, s, q, hc⟩ := crossIs_ex x y z u v t
  obtain ⟨r, hr⟩ := dotIs_ex x y z u v t
  have CV := Lib.hid fun w => vec_Valid x y z b1 hb1 w
  have RV := Lib.hid fun w => additiveref04_Valid x y z b1 hb1 w
  have CS := Lib.hid fun w => vec_Sub x y z u v t d1 d2 d3 hd w
  have RS := Lib.hid fun w => additiveref04_Sub x y z u v t d1 d2 d3 hd w
  have CC := Lib.hid fun w => vec_Cross x y z u v t p s q hc w
  have RC := Lib.hid fun w => additiveref04_Cross x y z u v t p s q hc w
  have CD := Lib.hid fun w => vec_Dot x y z u v t r hr w
  have RD := Lib.hid fun w => additiveref04_Dot x y z u v t r hr w
  have n1 : ∀ w, (binOp .neq 23 (.agg #[.int .i64 d1, .int .i64 d2, .int .i64 d3]) (.agg #[.int .i64 d1, .int .i64 d2, .int .i64 d3])).run Try.prog w = .ok (.bool false) w := fun w => by
    rw [neq_v, decide_eq_true ⟨rfl, rfl, rfl⟩]; rfl
  have n2 : ∀ w, (binOp .neq 23 (.agg #[.int .i64 p, .int .i64 s, .int .i64 q]) (.agg #[.int .i64 p, .int .i64 s, .int .i64 q])).run Try.prog w = .ok (.bool false) w := fun w => by
    rw [neq_v, decide_eq_true ⟨rfl, rfl, rfl⟩]; rfl
  have L1 := Lib.hid fun w => law_small4 x y z true (by first | rw [decide_eq_true i1] | rw [decide_eq_false i1]) w
  have L2 := Lib.hid fun w => law_small4 u v t true (by first | rw [decide_eq_true i2] | rw [decide_eq_false i2]) w
  have cw := cross_wide hc
  have o1 : DotIs x y z p s q 0 := by
    rcases hc with ⟨_, _, rfl, rfl, rfl⟩ | ⟨hn, _⟩
    · exact .inl ⟨i1, cw, (orth1 _ _ _ _ _ _).symm⟩
    · exact absurd ⟨i1, i2⟩ hn
  have o2 : DotIs u v t p s q 0 := by
    rcases hc with ⟨_, _, rfl, rfl, rfl⟩ | ⟨hn, _⟩
    · exact .inl ⟨i2, cw, (orth2 _ _ _ _ _ _).symm⟩
    · exact absurd ⟨i1, i2⟩ hn
  have E1 := Lib.hid fun w => vec_Dot x y z p s q 0 o1 w
  have E2 := Lib.hid fun w => vec_Dot u v t p s q 0 o2 w
  obtain ⟨W, hW, hx, hS⟩ := held6_new w x y z u v t 23
  have HX := Lib.hid hx
  have KA := Lib.hid hk
  clear hb1 hd hc hr i1 hk i2 cw o1 o2
  go_enter Try.func3, Try.ntmps3
  go_wp2_with fail
  clear hW hx
  refine (CC.out _).mono ?_; rintro e w1 ⟨rfl, x1⟩
  have hS1 := held6 x1 hS
  have X1 := Lib.hid (HX.out.trans x1)
  have zz : w.heap.size < w1.heap.size := cell_lt hS1.1
  have zz1 : w.heap.size + 1 < w1.heap.size := cell_lt hS1.2.2.2.1
  clear x1 hS
  go_wp2_with fail
  have hS2 : (w1.alloc (.cells #[.int .i64 p, .int .i64 s, .int .i64 q] 23)).cell? ⟨w.heap.size, 0, none⟩ = some (.int .i64 x) ∧ (w1.alloc (.cells #[.int .i64 p, .int .i64 s, .int .i64 q] 23)).cell? ⟨w.heap.size, 1, none⟩ = some (.int .i64 y) ∧ (w1.alloc (.cells #[.int .i64 p, .int .i64 s, .int .i64 q] 23)).cell? ⟨w.heap.size, 2, none⟩ = some (.int .i64 z) ∧ (w1.alloc (.cells #[.int .i64 p, .int .i64 s, .int .i64 q] 23)).cell? ⟨w.heap.size + 1, 0, none⟩ = some (.int .i64 u) ∧ (w1.alloc (.cells #[.int .i64 p, .int .i64 s, .int .i64 q] 23)).cell? ⟨w.heap.size + 1, 1, none⟩ = some (.int .i64 v) ∧ (w1.alloc (.cells #[.int .i64 p, .int .i64 s, .int .i64 q] 23)).cell? ⟨w.heap.size + 1, 2, none⟩ = some (.int .i64 t) ∧ (w1.alloc (.cells #[.int .i64 p, .int .i64 s, .int .i64 q] 23)).cell? ⟨w1.heap.size, 0, none⟩ = some (.int .i64 p) ∧ (w1.alloc (.cells #[.int .i64 p, .int .i64 s, .int .i64 q] 23)).cell? ⟨w1.heap.size, 1, none⟩ = some (.int .i64 s) ∧ (w1.alloc (.cells #[.int .i64 p, .int .i64 s, .int .i64 q] 23)).cell? ⟨w1.heap.size, 2, none⟩ = some (.int .i64 q) := by
    obtain ⟨h0, h1, h2, h3, h4, h5⟩ := hS1
    refine ⟨?_, ?_, ?_, ?_, ?_, ?_, ?_, ?_, ?_⟩ <;> go_simp
  have X2 : Hid (Ext w (w1.alloc (.cells #[.int .i64 p, .int .i64 s, .int .i64 q] 23))) := Lib.hid (X1.out.alloc _)
  obtain ⟨C, hC⟩ : ∃ C, w1.heap.size = C := ⟨_, rfl⟩
  obtain ⟨W2, hW2⟩ : ∃ W2, w1.alloc (.cells #[.int .i64 p, .int .i64 s, .int .i64 q] 23) = W2 := ⟨_, rfl⟩
  rw [hW2] at hS2 X2
  rw [hC] at hS2
  simp only [hW2, hC]
  clear hW2 hS1 zz zz1 hC
  refine wp_region_held_drew (S := fun w' => w'.cell? ⟨w.heap.size, 0, none⟩ = some (.int .i64 x) ∧ w'.cell? ⟨w.heap.size, 1, none⟩ = some (.int .i64 y) ∧ w'.cell? ⟨w.heap.size, 2, none⟩ = some (.int .i64 z) ∧ w'.cell? ⟨w.heap.size + 1, 0, none⟩ = some (.int .i64 u) ∧ w'.cell? ⟨w.heap.size + 1, 1, none⟩ = some (.int .i64 v) ∧ w'.cell? ⟨w.heap.size + 1, 2, none⟩ = some (.int .i64 t) ∧ w'.cell? ⟨C, 0, none⟩ = some (.int .i64 p) ∧ w'.cell? ⟨C, 1, none⟩ = some (.int .i64 s) ∧ w'.cell? ⟨C, 2, none⟩ = some (.int .i64 q)) (by kernel_rfl) (by (try dsimp only); first | assumption | go_keep) (fun hHeld => ?_)
  refine htake (i := 0) (v := ?_) (some 9) rfl rfl (by kernel_rfl) (by kernel_rfl) (by kernel_rfl) (fun _ _ _ h => h) (Or.inl ⟨by rfl, ?_⟩) (by assumption) ?_; rotate_left; (focus (intro w hSw; (try dsimp only at hSw); go_simp; (try with_reducible rfl))); (try simp only [Act.put]); (try simp only [List.setIfInBounds_toArray]); (try simp only [List.set_cons_succ]); (try simp only [List.set_cons_zero])
  refine htake (i := 2) (v := ?_) (some 11) rfl rfl (by kernel_rfl) (by kernel_rfl) (by kernel_rfl) (fun _ _ _ h => h) (Or.inl ⟨by rfl, ?_⟩) (by assumption) ?_; rotate_left; (focus (intro w hSw; (try dsimp only at hSw); go_simp; (try with_reducible rfl))); (try simp only [Act.put]); (try simp only [List.setIfInBounds_toArray]); (try simp only [List.set_cons_succ]); (try simp only [List.set_cons_zero])
  refine wpAnyH_ready (rs := [1]) (by kernel_rfl) (by simp) ?_
  refine AllReadyH.cons rfl (fun K hK => ?_) AllReadyH.nil
  go_simp
  refine (CV.out _).mono ?_; rintro e v1 ⟨rfl, g1⟩; have K1 := held9 g1 (by assumption)
  (try go_wp2_with fail)
  refine hK.out _ _ ?_ (fun hHeld => ?_)
  · (try dsimp only); first | assumption | go_keep
  clear hK K
  (try simp only [Act.put]); (try simp only [List.setIfInBounds_toArray]); (try simp only [List.set_cons_succ]); (try simp only [List.set_cons_zero])
  refine wpAnyH_ready (rs := [3]) (by kernel_rfl) (by simp) ?_
  refine AllReadyH.cons rfl (fun K hK => ?_) AllReadyH.nil
  go_simp
  refine (RV.out _).mono ?_; rintro e v2 ⟨rfl, g2⟩; have K2 := held9 g2 (by assumption)
  (try go_wp2_with fail)
  refine hK.out _ _ ?_ (fun hHeld => ?_)
  · (try dsimp only); first | assumption | go_keep
  clear hK K
  (try simp only [Act.put]); (try simp only [List.setIfInBounds_toArray]); (try simp only [List.set_cons_succ]); (try simp only [List.set_cons_zero])
  refine htake (i := 4) (v := ?_) (some 13) rfl rfl (by kernel_rfl) (by kernel_rfl) (by kernel_rfl) (fun _ _ _ h => h) (Or.inl ⟨by rfl, ?_⟩) (by assumption) ?_; rotate_left; (focus (intro w hSw; (try dsimp only at hSw); go_simp; (try with_reducible rfl))); (try simp only [Act.put]); (try simp only [List.setIfInBounds_toArray]); (try simp only [List.set_cons_succ]); (try simp only [List.set_cons_zero])
  refine htake (i := 5) (v := ?_) (some 14) rfl rfl (by kernel_rfl) (by kernel_rfl) (by kernel_rfl) (fun _ _ _ h => h) (Or.inl ⟨by rfl, ?_⟩) (by assumption) ?_; rotate_left; (focus (intro w hSw; (try dsimp only at hSw); go_simp; (try with_reducible rfl))); (try simp only [Act.put]); (try simp only [List.setIfInBounds_toArray]); (try simp only [List.set_cons_succ]); (try simp only [List.set_cons_zero])
  refine htake (i := 6) (v := ?_) (some 15) rfl rfl (by kernel_rfl) (by kernel_rfl) (by kernel_rfl) (fun _ _ _ h => h) (Or.inl ⟨by rfl, ?_⟩) (by assumption) ?_; rotate_left; (focus (intro w hSw; (try dsimp only at hSw); go_simp; (try with_reducible rfl))); (try simp only [Act.put]); (try simp only [List.setIfInBounds_toArray]); (try simp only [List.set_cons_succ]); (try simp only [List.set_cons_zero])
  refine htake (i := 7) (v := ?_) (some 16) rfl rfl (by kernel_rfl) (by kernel_rfl) (by kernel_rfl) (fun _ _ _ h => h) (Or.inl ⟨by rfl, ?_⟩) (by assumption) ?_; rotate_left; (focus (intro w hSw; (try dsimp only at hSw); go_simp; (try with_reducible rfl))); (try simp only [Act.put]); (try simp only [List.setIfInBounds_toArray]); (try simp only [List.set_cons_succ]); (try simp only [List.set_cons_zero])
  refine htake (i := 9) (v := ?_) (some 18) rfl rfl (by kernel_rfl) (by kernel_rfl) (by kernel_rfl) (fun _ _ _ h => h) (Or.inl ⟨by rfl, ?_⟩) (by assumption) ?_; rotate_left; (focus (intro w hSw; (try dsimp only at hSw); go_simp; (try with_reducible rfl))); (try simp only [Act.put]); (try simp only [List.setIfInBounds_toArray]); (try simp only [List.set_cons_succ]); (try simp only [List.set_cons_zero])
  refine htake (i := 10) (v := ?_) (some 19) rfl rfl (by kernel_rfl) (by kernel_rfl) (by kernel_rfl) (fun _ _ _ h => h) (Or.inl ⟨by rfl, ?_⟩) (by assumption) ?_; rotate_left; (focus (intro w hSw; (try dsimp only at hSw); go_simp; (try with_reducible rfl))); (try simp only [Act.put]); (try simp only [List.setIfInBounds_toArray]); (try simp only [List.set_cons_succ]); (try simp only [List.set_cons_zero])
  refine wpAnyH_ready (rs := [8]) (by kernel_rfl) (by simp) ?_
  refine AllReadyH.cons rfl (fun K hK => ?_) AllReadyH.nil
  go_simp
  refine (CS.out _).mono ?_; rintro e v3 ⟨rfl, g3⟩; have K3 := held9 g3 (by assumption)
  (try go_wp2_with fail)
  refine hK.out _ _ ?_ (fun hHeld => ?_)
  · (try dsimp only); first | assumption | go_keep
  clear hK K
  (try simp only [Act.put]); (try simp only [List.setIfInBounds_toArray]); (try simp only [List.set_cons_succ]); (try simp only [List.set_cons_zero])
  refine wpAnyH_ready (rs := [11]) (by kernel_rfl) (by simp) ?_
  refine AllReadyH.cons rfl (fun K hK => ?_) AllReadyH.nil
  go_simp
  refine (RS.out _).mono ?_; rintro e v4 ⟨rfl, g4⟩; have K4 := held9 g4 (by assumption)
  (try go_wp2_with fail)
  refine hK.out _ _ ?_ (fun hHeld => ?_)
  · (try dsimp only); first | assumption | go_keep
  clear hK K
  (try simp only [Act.put]); (try simp only [List.setIfInBounds_toArray]); (try simp only [List.set_cons_succ]); (try simp only [List.set_cons_zero])
  refine htake (i := 12) (v := ?_) (some 21) rfl rfl (by kernel_rfl) (by kernel_rfl) (by kernel_rfl) (fun _ _ _ h => h) (Or.inl ⟨by rfl, ?_⟩) (by assumption) ?_; rotate_left; (focus (intro w hSw; (try dsimp only at hSw); go_simp; (try with_reducible rfl))); (try simp only [Act.put]); (try simp only [List.setIfInBounds_toArray]); (try simp only [List.set_cons_succ]); (try simp only [List.set_cons_zero])
  refine htake (i := 13) (v := ?_) (some 22) rfl rfl (by kernel_rfl) (by kernel_rfl) (by kernel_rfl) (fun _ _ _ h => h) (Or.inl ⟨by rfl, ?_⟩) (by assumption) ?_; rotate_left; (focus (intro w hSw; (try dsimp only at hSw); go_simp; (try with_reducible rfl))); (try simp only [Act.put]); (try simp only [List.setIfInBounds_toArray]); (try simp only [List.set_cons_succ]); (try simp only [List.set_cons_zero])
  refine htake (i := 14) (v := ?_) (some 23) rfl rfl (by kernel_rfl) (by kernel_rfl) (by kernel_rfl) (fun _ _ _ h => h) (Or.inl ⟨by rfl, ?_⟩) (by assumption) ?_; rotate_left; (focus (intro w hSw; (try dsimp only at hSw); go_simp; (try with_reducible rfl))); (try simp only [Act.put]); (try simp only [List.setIfInBounds_toArray]); (try simp only [List.set_cons_succ]); (try simp only [List.set_cons_zero])
  refine htake (i := 15) (v := ?_) (some 24) rfl rfl (by kernel_rfl) (by kernel_rfl) (by kernel_rfl) (fun _ _ _ h => h) (Or.inl ⟨by rfl, ?_⟩) (by assumption) ?_; rotate_left; (focus (intro w hSw; (try dsimp only at hSw); go_simp; (try with_reducible rfl))); (try simp only [Act.put]); (try simp only [List.setIfInBounds_toArray]); (try simp only [List.set_cons_succ]); (try simp only [List.set_cons_zero])
  refine htake (i := 16) (v := ?_) (some 25) rfl rfl (by kernel_rfl) (by kernel_rfl) (by kernel_rfl) (fun _ _ _ h => h) (Or.inl ⟨by rfl, ?_⟩) (by assumption) ?_; rotate_left; (focus (intro w hSw; (try dsimp only at hSw); go_simp; (try with_reducible rfl))); (try simp only [Act.put]); (try simp only [List.setIfInBounds_toArray]); (try simp only [List.set_cons_succ]); (try simp only [List.set_cons_zero])
  refine htake (i := 17) (v := ?_) (some 26) rfl rfl (by kernel_rfl) (by kernel_rfl) (by kernel_rfl) (fun _ _ _ h => h) (Or.inl ⟨by rfl, ?_⟩) (by assumption) ?_; rotate_left; (focus (intro w hSw; (try dsimp only at hSw); go_simp; (try with_reducible rfl))); (try simp only [Act.put]); (try simp only [List.setIfInBounds_toArray]); (try simp only [List.set_cons_succ]); (try simp only [List.set_cons_zero])
  refine wpAnyH_ready (rs := [18]) (by kernel_rfl) (by simp) ?_
  refine AllReadyH.cons rfl (fun K hK => ?_) AllReadyH.nil
  go_simp
  refine (RC.out _).mono ?_; rintro e v5 ⟨rfl, g5⟩; have K5 := held9 g5 (by assumption)
  (try go_wp2_with fail)
  refine hK.out _ _ ?_ (fun hHeld => ?_)
  · (try dsimp only); first | assumption | go_keep
  clear hK K
  (try simp only [Act.put]); (try simp only [List.setIfInBounds_toArray]); (try simp only [List.set_cons_succ]); (try simp only [List.set_cons_zero])
  refine htake (i := 19) (v := ?_) (some 28) rfl rfl (by kernel_rfl) (by kernel_rfl) (by kernel_rfl) (fun _ _ _ h => h) (Or.inl ⟨by rfl, ?_⟩) (by assumption) ?_; rotate_left; (focus (intro w hSw; (try dsimp only at hSw); go_simp; (try with_reducible rfl))); (try simp only [Act.put]); (try simp only [List.setIfInBounds_toArray]); (try simp only [List.set_cons_succ]); (try simp only [List.set_cons_zero])
  refine htake (i := 20) (v := ?_) (some 29) rfl rfl (by kernel_rfl) (by kernel_rfl) (by kernel_rfl) (fun _ _ _ h => h) (Or.inl ⟨by rfl, ?_⟩) (by assumption) ?_; rotate_left; (focus (intro w hSw; (try dsimp only at hSw); go_simp; (try with_reducible rfl))); (try simp only [Act.put]); (try simp only [List.setIfInBounds_toArray]); (try simp only [List.set_cons_succ]); (try simp only [List.set_cons_zero])
  refine htake (i := 21) (v := ?_) (some 30) rfl rfl (by kernel_rfl) (by kernel_rfl) (by kernel_rfl) (fun _ _ _ h => h) (Or.inl ⟨by rfl, ?_⟩) (by assumption) ?_; rotate_left; (focus (intro w hSw; (try dsimp only at hSw); go_simp; (try with_reducible rfl))); (try simp only [Act.put]); (try simp only [List.setIfInBounds_toArray]); (try simp only [List.set_cons_succ]); (try simp only [List.set_cons_zero])
  refine htake (i := 22) (v := ?_) (some 31) rfl rfl (by kernel_rfl) (by kernel_rfl) (by kernel_rfl) (fun _ _ _ h => h) (Or.inl ⟨by rfl, ?_⟩) (by assumption) ?_; rotate_left; (focus (intro w hSw; (try dsimp only at hSw); go_simp; (try with_reducible rfl))); (try simp only [Act.put]); (try simp only [List.setIfInBounds_toArray]); (try simp only [List.set_cons_succ]); (try simp only [List.set_cons_zero])
  refine htake (i := 23) (v := ?_) (some 32) rfl rfl (by kernel_rfl) (by kernel_rfl) (by kernel_rfl) (fun _ _ _ h => h) (Or.inl ⟨by rfl, ?_⟩) (by assumption) ?_; rotate_left; (focus (intro w hSw; (try dsimp only at hSw); go_simp; (try with_reducible rfl))); (try simp only [Act.put]); (try simp only [List.setIfInBounds_toArray]); (try simp only [List.set_cons_succ]); (try simp only [List.set_cons_zero])
  refine htake (i := 25) (v := ?_) (some 34) rfl rfl (by kernel_rfl) (by kernel_rfl) (by kernel_rfl) (fun _ _ _ h => h) (Or.inl ⟨by rfl, ?_⟩) (by assumption) ?_; rotate_left; (focus (intro w hSw; (try dsimp only at hSw); go_simp; (try with_reducible rfl))); (try simp only [Act.put]); (try simp only [List.setIfInBounds_toArray]); (try simp only [List.set_cons_succ]); (try simp only [List.set_cons_zero])
  refine htake (i := 26) (v := ?_) (some 35) rfl rfl (by kernel_rfl) (by kernel_rfl) (by kernel_rfl) (fun _ _ _ h => h) (Or.inl ⟨by rfl, ?_⟩) (by assumption) ?_; rotate_left; (focus (intro w hSw; (try dsimp only at hSw); go_simp; (try with_reducible rfl))); (try simp only [Act.put]); (try simp only [List.setIfInBounds_toArray]); (try simp only [List.set_cons_succ]); (try simp only [List.set_cons_zero])
  refine wpAnyH_ready (rs := [24]) (by kernel_rfl) (by simp) ?_
  refine AllReadyH.cons rfl (fun K hK => ?_) AllReadyH.nil
  go_simp
  refine (CD.out _).mono ?_; rintro e v6 ⟨rfl, g6⟩; have K6 := held9 g6 (by assumption)
  (try go_wp2_with fail)
  refine hK.out _ _ ?_ (fun hHeld => ?_)
  · (try dsimp only); first | assumption | go_keep
  clear hK K
  (try simp only [Act.put]); (try simp only [List.setIfInBounds_toArray]); (try simp only [List.set_cons_succ]); (try simp only [List.set_cons_zero])
  refine wpAnyH_ready (rs := [27]) (by kernel_rfl) (by simp) ?_
  refine AllReadyH.cons rfl (fun K hK => ?_) AllReadyH.nil
  go_simp
  refine (RD.out _).mono ?_; rintro e v7 ⟨rfl, g7⟩; have K7 := held9 g7 (by assumption)
  (try go_wp2_with fail)
  refine hK.out _ _ ?_ (fun hHeld => ?_)
  · (try dsimp only); first | assumption | go_keep
  clear hK K
  (try simp only [Act.put]); (try simp only [List.setIfInBounds_toArray]); (try simp only [List.set_cons_succ]); (try simp only [List.set_cons_zero])
  refine htake (i := 28) (v := ?_) (some 37) rfl rfl (by kernel_rfl) (by kernel_rfl) (by kernel_rfl) (fun _ _ _ h => h) (Or.inl ⟨by rfl, ?_⟩) (by assumption) ?_; rotate_left; (focus (intro w hSw; (try dsimp only at hSw); go_simp; (try with_reducible rfl))); (try simp only [Act.put]); (try simp only [List.setIfInBounds_toArray]); (try simp only [List.set_cons_succ]); (try simp only [List.set_cons_zero])
  refine htake (i := 29) (v := ?_) (some 38) rfl rfl (by kernel_rfl) (by kernel_rfl) (by kernel_rfl) (fun _ _ _ h => h) (Or.inl ⟨by rfl, ?_⟩) (by assumption) ?_; rotate_left; (focus (intro w hSw; (try dsimp only at hSw); go_simp; (try with_reducible rfl))); (try simp only [Act.put]); (try simp only [List.setIfInBounds_toArray]); (try simp only [List.set_cons_succ]); (try simp only [List.set_cons_zero])
  refine wpAnyH_done (by kernel_rfl) ?_ _
  have Y0 := Lib.hid (((((((X2.out.drew.trans g1).trans g2).trans g3).trans g4).trans g5).trans g6).trans g7)
  clear g1 g2 g3 g4 g5 g6 g7
  go_wp2_with fail
  refine (L1.out _).mono ?_; rintro e v8 ⟨rfl, g8⟩
  have K8 := held9 g8 K7
  have Y8 := Lib.hid (Y0.out.trans g8)
  clear g8 K7
  go_wp2_with fail
  refine (L2.out _).mono ?_; rintro e v9 ⟨rfl, g9⟩
  have K9 := held9 g9 K8
  have Y9 := Lib.hid (Y8.out.trans g9)
  clear g9 K8
  go_wp2_with fail
  refine (E1.out _).mono ?_; rintro e v10 ⟨rfl, g10⟩
  have K10 := held9 g10 K9
  have Y10 := Lib.hid (Y9.out.trans g10)
  clear g10 K9
  go_wp2_with fail
  refine (E2.out _).mono ?_; rintro e v11 ⟨rfl, g11⟩
  have K11 := held9 g11 K10
  have Y11 := Lib.hid (Y10.out.trans g11)
  clear g11 K10
  go_wp2_with fail
  refine (KA.out _).mono ?_; rintro e w9 ⟨rfl, h9⟩
  go_wp2_with fail
  go_ret
  exact ⟨rfl, Y11.out.trans h9⟩
set_option maxHeartbeats 4000000 in
theorem law_VecProducts_sn (x y z u v t : Int) (i1 : In3 131072 x y z) (i2 : ¬ In3 131072 u v t) (hk : Awake4) (w : World) :
    Calls Try.prog 3 #[.agg #[.int .i64 x, .int .i64 y, .int .i64 z], .agg #[.int .i64 u, .int .i64 v, .int .i64 t]] w fun e w' => e = .returned (.bool true) ∧ Ext w w' := by
  obtain ⟨b1, hb1⟩ : ∃ b1, b1 = decide (In3 65536 x y z) := ⟨_, rfl⟩
  obtain ⟨d1, d2, d3, hd⟩ := subIs_ex x y z u v t
  obtain ⟨p, s, q, hc⟩ := crossIs_ex x y z u v t
  obtain ⟨r, hr⟩ := dotIs_ex x y z u v t
  have CV := Lib.hid fun w => vec_Valid x y z b1 hb1 w
  have RV := Lib.hid fun w => additiveref04_Valid x y z b1 hb1 w
  have CS := Lib.hid fun w => vec_Sub x y z u v t d1 d2 d3 hd w
  have RS := Lib.hid fun w => additiveref04_Sub x y z u v t d1 d2 d3 hd w
  have CC := Lib.hid fun w => vec_Cross x y z u v t p s q hc w
  have RC := Lib.hid fun w => additiveref04_Cross x y z u v t p s q hc w
  have CD := Lib.hid fun w => vec_Dot x y z u v t r hr w
  have RD := Lib.hid fun w => additiveref04_Dot x y z u v t r hr w
  have n1 : ∀ w, (binOp .neq 23 (.agg #[.int .i64 d1, .int .i64 d2, .int .i64 d3]) (.agg #[.int .i64 d1, .int .i64 d2, .int .i64 d3])).run Try.prog w = .ok (.bool false) w := fun w => by
    rw [neq_v, decide_eq_true ⟨rfl, rfl, rfl⟩]; rfl
  have n2 : ∀ w, (binOp .neq 23 (.agg #[.int .i64 p, .int .i64 s, .int .i64 q]) (.agg #[.int .i64 p, .int .i64 s, .int .i64 q])).run Try.prog w = .ok (.bool false) w := fun w => by
    rw [neq_v, decide_eq_true ⟨rfl, rfl, rfl⟩]; rfl
  have L1 := Lib.hid fun w => law_small4 x y z true (by first | rw [decide_eq_true i1] | rw [decide_eq_false i1]) w
  have L2 := Lib.hid fun w => law_small4 u v t false (by first | rw [decide_eq_true i2] | rw [decide_eq_false i2]) w
  obtain ⟨W, hW, hx, hS⟩ := held6_new w x y z u v t 23
  have HX := Lib.hid hx
  have KA := Lib.hid hk
  clear hb1 hd hc hr i1 hk i2
  go_enter Try.func3, Try.ntmps3
  go_wp2_with fail
  clear hW hx
  refine (CC.out _).mono ?_; rintro e w1 ⟨rfl, x1⟩
  have hS1 := held6 x1 hS
  have X1 := Lib.hid (HX.out.trans x1)
  have zz : w.heap.size < w1.heap.size := cell_lt hS1.1
  have zz1 : w.heap.size + 1 < w1.heap.size := cell_lt hS1.2.2.2.1
  clear x1 hS
  go_wp2_with fail
  have hS2 : (w1.alloc (.cells #[.int .i64 p, .int .i64 s, .int .i64 q] 23)).cell? ⟨w.heap.size, 0, none⟩ = some (.int .i64 x) ∧ (w1.alloc (.cells #[.int .i64 p, .int .i64 s, .int .i64 q] 23)).cell? ⟨w.heap.size, 1, none⟩ = some (.int .i64 y) ∧ (w1.alloc (.cells #[.int .i64 p, .int .i64 s, .int .i64 q] 23)).cell? ⟨w.heap.size, 2, none⟩ = some (.int .i64 z) ∧ (w1.alloc (.cells #[.int .i64 p, .int .i64 s, .int .i64 q] 23)).cell? ⟨w.heap.size + 1, 0, none⟩ = some (.int .i64 u) ∧ (w1.alloc (.cells #[.int .i64 p, .int .i64 s, .int .i64 q] 23)).cell? ⟨w.heap.size + 1, 1, none⟩ = some (.int .i64 v) ∧ (w1.alloc (.cells #[.int .i64 p, .int .i64 s, .int .i64 q] 23)).cell? ⟨w.heap.size + 1, 2, none⟩ = some (.int .i64 t) ∧ (w1.alloc (.cells #[.int .i64 p, .int .i64 s, .int .i64 q] 23)).cell? ⟨w1.heap.size, 0, none⟩ = some (.int .i64 p) ∧ (w1.alloc (.cells #[.int .i64 p, .int .i64 s, .int .i64 q] 23)).cell? ⟨w1.heap.size, 1, none⟩ = some (.int .i64 s) ∧ (w1.alloc (.cells #[.int .i64 p, .int .i64 s, .int .i64 q] 23)).cell? ⟨w1.heap.size, 2, none⟩ = some (.int .i64 q) := by
    obtain ⟨h0, h1, h2, h3, h4, h5⟩ := hS1
    refine ⟨?_, ?_, ?_, ?_, ?_, ?_, ?_, ?_, ?_⟩ <;> go_simp
  have X2 : Hid (Ext w (w1.alloc (.cells #[.int .i64 p, .int .i64 s, .int .i64 q] 23))) := Lib.hid (X1.out.alloc _)
  obtain ⟨C, hC⟩ : ∃ C, w1.heap.size = C := ⟨_, rfl⟩
  obtain ⟨W2, hW2⟩ : ∃ W2, w1.alloc (.cells #[.int .i64 p, .int .i64 s, .int .i64 q] 23) = W2 := ⟨_, rfl⟩
  rw [hW2] at hS2 X2
  rw [hC] at hS2
  simp only [hW2, hC]
  clear hW2 hS1 zz zz1 hC
  refine wp_region_held_drew (S := fun w' => w'.cell? ⟨w.heap.size, 0, none⟩ = some (.int .i64 x) ∧ w'.cell? ⟨w.heap.size, 1, none⟩ = some (.int .i64 y) ∧ w'.cell? ⟨w.heap.size, 2, none⟩ = some (.int .i64 z) ∧ w'.cell? ⟨w.heap.size + 1, 0, none⟩ = some (.int .i64 u) ∧ w'.cell? ⟨w.heap.size + 1, 1, none⟩ = some (.int .i64 v) ∧ w'.cell? ⟨w.heap.size + 1, 2, none⟩ = some (.int .i64 t) ∧ w'.cell? ⟨C, 0, none⟩ = some (.int .i64 p) ∧ w'.cell? ⟨C, 1, none⟩ = some (.int .i64 s) ∧ w'.cell? ⟨C, 2, none⟩ = some (.int .i64 q)) (by kernel_rfl) (by (try dsimp only); first | assumption | go_keep) (fun hHeld => ?_)
  refine htake (i := 0) (v := ?_) (some 9) rfl rfl (by kernel_rfl) (by kernel_rfl) (by kernel_rfl) (fun _ _ _ h => h) (Or.inl ⟨by rfl, ?_⟩) (by assumption) ?_; rotate_left; (focus (intro w hSw; (try dsimp only at hSw); go_simp; (try with_reducible rfl))); (try simp only [Act.put]); (try simp only [List.setIfInBounds_toArray]); (try simp only [List.set_cons_succ]); (try simp only [List.set_cons_zero])
  refine htake (i := 2) (v := ?_) (some 11) rfl rfl (by kernel_rfl) (by kernel_rfl) (by kernel_rfl) (fun _ _ _ h => h) (Or.inl ⟨by rfl, ?_⟩) (by assumption) ?_; rotate_left; (focus (intro w hSw; (try dsimp only at hSw); go_simp; (try with_reducible rfl))); (try simp only [Act.put]); (try simp only [List.setIfInBounds_toArray]); (try simp only [List.set_cons_succ]); (try simp only [List.set_cons_zero])
  refine wpAnyH_ready (rs := [1]) (by kernel_rfl) (by simp) ?_
  refine AllReadyH.cons rfl (fun K hK => ?_) AllReadyH.nil
  go_simp
  refine (CV.out _).mono ?_; rintro e v1 ⟨rfl, g1⟩; have K1 := held9 g1 (by assumption)
  (try go_wp2_with fail)
  refine hK.out _ _ ?_ (fun hHeld => ?_)
  · (try dsimp only); first | assumption | go_keep
  clear hK K
  (try simp only [Act.put]); (try simp only [List.setIfInBounds_toArray]); (try simp only [List.set_cons_succ]); (try simp only [List.set_cons_zero])
  refine wpAnyH_ready (rs := [3]) (by kernel_rfl) (by simp) ?_
  refine AllReadyH.cons rfl (fun K hK => ?_) AllReadyH.nil
  go_simp
  refine (RV.out _).mono ?_; rintro e v2 ⟨rfl, g2⟩; have K2 := held9 g2 (by assumption)
  (try go_wp2_with fail)
  refine hK.out _ _ ?_ (fun hHeld => ?_)
  · (try dsimp only); first | assumption | go_keep
  clear hK K
  (try simp only [Act.put]); (try simp only [List.setIfInBounds_toArray]); (try simp only [List.set_cons_succ]); (try simp only [List.set_cons_zero])
  refine htake (i := 4) (v := ?_) (some 13) rfl rfl (by kernel_rfl) (by kernel_rfl) (by kernel_rfl) (fun _ _ _ h => h) (Or.inl ⟨by rfl, ?_⟩) (by assumption) ?_; rotate_left; (focus (intro w hSw; (try dsimp only at hSw); go_simp; (try with_reducible rfl))); (try simp only [Act.put]); (try simp only [List.setIfInBounds_toArray]); (try simp only [List.set_cons_succ]); (try simp only [List.set_cons_zero])
  refine htake (i := 5) (v := ?_) (some 14) rfl rfl (by kernel_rfl) (by kernel_rfl) (by kernel_rfl) (fun _ _ _ h => h) (Or.inl ⟨by rfl, ?_⟩) (by assumption) ?_; rotate_left; (focus (intro w hSw; (try dsimp only at hSw); go_simp; (try with_reducible rfl))); (try simp only [Act.put]); (try simp only [List.setIfInBounds_toArray]); (try simp only [List.set_cons_succ]); (try simp only [List.set_cons_zero])
  refine htake (i := 6) (v := ?_) (some 15) rfl rfl (by kernel_rfl) (by kernel_rfl) (by kernel_rfl) (fun _ _ _ h => h) (Or.inl ⟨by rfl, ?_⟩) (by assumption) ?_; rotate_left; (focus (intro w hSw; (try dsimp only at hSw); go_simp; (try with_reducible rfl))); (try simp only [Act.put]); (try simp only [List.setIfInBounds_toArray]); (try simp only [List.set_cons_succ]); (try simp only [List.set_cons_zero])
  refine htake (i := 7) (v := ?_) (some 16) rfl rfl (by kernel_rfl) (by kernel_rfl) (by kernel_rfl) (fun _ _ _ h => h) (Or.inl ⟨by rfl, ?_⟩) (by assumption) ?_; rotate_left; (focus (intro w hSw; (try dsimp only at hSw); go_simp; (try with_reducible rfl))); (try simp only [Act.put]); (try simp only [List.setIfInBounds_toArray]); (try simp only [List.set_cons_succ]); (try simp only [List.set_cons_zero])
  refine htake (i := 9) (v := ?_) (some 18) rfl rfl (by kernel_rfl) (by kernel_rfl) (by kernel_rfl) (fun _ _ _ h => h) (Or.inl ⟨by rfl, ?_⟩) (by assumption) ?_; rotate_left; (focus (intro w hSw; (try dsimp only at hSw); go_simp; (try with_reducible rfl))); (try simp only [Act.put]); (try simp only [List.setIfInBounds_toArray]); (try simp only [List.set_cons_succ]); (try simp only [List.set_cons_zero])
  refine htake (i := 10) (v := ?_) (some 19) rfl rfl (by kernel_rfl) (by kernel_rfl) (by kernel_rfl) (fun _ _ _ h => h) (Or.inl ⟨by rfl, ?_⟩) (by assumption) ?_; rotate_left; (focus (intro w hSw; (try dsimp only at hSw); go_simp; (try with_reducible rfl))); (try simp only [Act.put]); (try simp only [List.setIfInBounds_toArray]); (try simp only [List.set_cons_succ]); (try simp only [List.set_cons_zero])
  refine wpAnyH_ready (rs := [8]) (by kernel_rfl) (by simp) ?_
  refine AllReadyH.cons rfl (fun K hK => ?_) AllReadyH.nil
  go_simp
  refine (CS.out _).mono ?_; rintro e v3 ⟨rfl, g3⟩; have K3 := held9 g3 (by assumption)
  (try go_wp2_with fail)
  refine hK.out _ _ ?_ (fun hHeld => ?_)
  · (try dsimp only); first | assumption | go_keep
  clear hK K
  (try simp only [Act.put]); (try simp only [List.setIfInBounds_toArray]); (try simp only [List.set_cons_succ]); (try simp only [List.set_cons_zero])
  refine wpAnyH_ready (rs := [11]) (by kernel_rfl) (by simp) ?_
  refine AllReadyH.cons rfl (fun K hK => ?_) AllReadyH.nil
  go_simp
  refine (RS.out _).mono ?_; rintro e v4 ⟨rfl, g4⟩; have K4 := held9 g4 (by assumption)
  (try go_wp2_with fail)
  refine hK.out _ _ ?_ (fun hHeld => ?_)
  · (try dsimp only); first | assumption | go_keep
  clear hK K
  (try simp only [Act.put]); (try simp only [List.setIfInBounds_toArray]); (try simp only [List.set_cons_succ]); (try simp only [List.set_cons_zero])
  refine htake (i := 12) (v := ?_) (some 21) rfl rfl (by kernel_rfl) (by kernel_rfl) (by kernel_rfl) (fun _ _ _ h => h) (Or.inl ⟨by rfl, ?_⟩) (by assumption) ?_; rotate_left; (focus (intro w hSw; (try dsimp only at hSw); go_simp; (try with_reducible rfl))); (try simp only [Act.put]); (try simp only [List.setIfInBounds_toArray]); (try simp only [List.set_cons_succ]); (try simp only [List.set_cons_zero])
  refine htake (i := 13) (v := ?_) (some 22) rfl rfl (by kernel_rfl) (by kernel_rfl) (by kernel_rfl) (fun _ _ _ h => h) (Or.inl ⟨by rfl, ?_⟩) (by assumption) ?_; rotate_left; (focus (intro w hSw; (try dsimp only at hSw); go_simp; (try with_reducible rfl))); (try simp only [Act.put]); (try simp only [List.setIfInBounds_toArray]); (try simp only [List.set_cons_succ]); (try simp only [List.set_cons_zero])
  refine htake (i := 14) (v := ?_) (some 23) rfl rfl (by kernel_rfl) (by kernel_rfl) (by kernel_rfl) (fun _ _ _ h => h) (Or.inl ⟨by rfl, ?_⟩) (by assumption) ?_; rotate_left; (focus (intro w hSw; (try dsimp only at hSw); go_simp; (try with_reducible rfl))); (try simp only [Act.put]); (try simp only [List.setIfInBounds_toArray]); (try simp only [List.set_cons_succ]); (try simp only [List.set_cons_zero])
  refine htake (i := 15) (v := ?_) (some 24) rfl rfl (by kernel_rfl) (by kernel_rfl) (by kernel_rfl) (fun _ _ _ h => h) (Or.inl ⟨by rfl, ?_⟩) (by assumption) ?_; rotate_left; (focus (intro w hSw; (try dsimp only at hSw); go_simp; (try with_reducible rfl))); (try simp only [Act.put]); (try simp only [List.setIfInBounds_toArray]); (try simp only [List.set_cons_succ]); (try simp only [List.set_cons_zero])
  refine htake (i := 16) (v := ?_) (some 25) rfl rfl (by kernel_rfl) (by kernel_rfl) (by kernel_rfl) (fun _ _ _ h => h) (Or.inl ⟨by rfl, ?_⟩) (by assumption) ?_; rotate_left; (focus (intro w hSw; (try dsimp only at hSw); go_simp; (try with_reducible rfl))); (try simp only [Act.put]); (try simp only [List.setIfInBounds_toArray]); (try simp only [List.set_cons_succ]); (try simp only [List.set_cons_zero])
  refine htake (i := 17) (v := ?_) (some 26) rfl rfl (by kernel_rfl) (by kernel_rfl) (by kernel_rfl) (fun _ _ _ h => h) (Or.inl ⟨by rfl, ?_⟩) (by assumption) ?_; rotate_left; (focus (intro w hSw; (try dsimp only at hSw); go_simp; (try with_reducible rfl))); (try simp only [Act.put]); (try simp only [List.setIfInBounds_toArray]); (try simp only [List.set_cons_succ]); (try simp only [List.set_cons_zero])
  refine wpAnyH_ready (rs := [18]) (by kernel_rfl) (by simp) ?_
  refine AllReadyH.cons rfl (fun K hK => ?_) AllReadyH.nil
  go_simp
  refine (RC.out _).mono ?_; rintro e v5 ⟨rfl, g5⟩; have K5 := held9 g5 (by assumption)
  (try go_wp2_with fail)
  refine hK.out _ _ ?_ (fun hHeld => ?_)
  · (try dsimp only); first | assumption | go_keep
  clear hK K
  (try simp only [Act.put]); (try simp only [List.setIfInBounds_toArray]); (try simp only [List.set_cons_succ]); (try simp only [List.set_cons_zero])
  refine htake (i := 19) (v := ?_) (some 28) rfl rfl (by kernel_rfl) (by kernel_rfl) (by kernel_rfl) (fun _ _ _ h => h) (Or.inl ⟨by rfl, ?_⟩) (by assumption) ?_; rotate_left; (focus (intro w hSw; (try dsimp only at hSw); go_simp; (try with_reducible rfl))); (try simp only [Act.put]); (try simp only [List.setIfInBounds_toArray]); (try simp only [List.set_cons_succ]); (try simp only [List.set_cons_zero])
  refine htake (i := 20) (v := ?_) (some 29) rfl rfl (by kernel_rfl) (by kernel_rfl) (by kernel_rfl) (fun _ _ _ h => h) (Or.inl ⟨by rfl, ?_⟩) (by assumption) ?_; rotate_left; (focus (intro w hSw; (try dsimp only at hSw); go_simp; (try with_reducible rfl))); (try simp only [Act.put]); (try simp only [List.setIfInBounds_toArray]); (try simp only [List.set_cons_succ]); (try simp only [List.set_cons_zero])
  refine htake (i := 21) (v := ?_) (some 30) rfl rfl (by kernel_rfl) (by kernel_rfl) (by kernel_rfl) (fun _ _ _ h => h) (Or.inl ⟨by rfl, ?_⟩) (by assumption) ?_; rotate_left; (focus (intro w hSw; (try dsimp only at hSw); go_simp; (try with_reducible rfl))); (try simp only [Act.put]); (try simp only [List.setIfInBounds_toArray]); (try simp only [List.set_cons_succ]); (try simp only [List.set_cons_zero])
  refine htake (i := 22) (v := ?_) (some 31) rfl rfl (by kernel_rfl) (by kernel_rfl) (by kernel_rfl) (fun _ _ _ h => h) (Or.inl ⟨by rfl, ?_⟩) (by assumption) ?_; rotate_left; (focus (intro w hSw; (try dsimp only at hSw); go_simp; (try with_reducible rfl))); (try simp only [Act.put]); (try simp only [List.setIfInBounds_toArray]); (try simp only [List.set_cons_succ]); (try simp only [List.set_cons_zero])
  refine htake (i := 23) (v := ?_) (some 32) rfl rfl (by kernel_rfl) (by kernel_rfl) (by kernel_rfl) (fun _ _ _ h => h) (Or.inl ⟨by rfl, ?_⟩) (by assumption) ?_; rotate_left; (focus (intro w hSw; (try dsimp only at hSw); go_simp; (try with_reducible rfl))); (try simp only [Act.put]); (try simp only [List.setIfInBounds_toArray]); (try simp only [List.set_cons_succ]); (try simp only [List.set_cons_zero])
  refine htake (i := 25) (v := ?_) (some 34) rfl rfl (by kernel_rfl) (by kernel_rfl) (by kernel_rfl) (fun _ _ _ h => h) (Or.inl ⟨by rfl, ?_⟩) (by assumption) ?_; rotate_left; (focus (intro w hSw; (try dsimp only at hSw); go_simp; (try with_reducible rfl))); (try simp only [Act.put]); (try simp only [List.setIfInBounds_toArray]); (try simp only [List.set_cons_succ]); (try simp only [List.set_cons_zero])
  refine htake (i := 26) (v := ?_) (some 35) rfl rfl (by kernel_rfl) (by kernel_rfl) (by kernel_rfl) (fun _ _ _ h => h) (Or.inl ⟨by rfl, ?_⟩) (by assumption) ?_; rotate_left; (focus (intro w hSw; (try dsimp only at hSw); go_simp; (try with_reducible rfl))); (try simp only [Act.put]); (try simp only [List.setIfInBounds_toArray]); (try simp only [List.set_cons_succ]); (try simp only [List.set_cons_zero])
  refine wpAnyH_ready (rs := [24]) (by kernel_rfl) (by simp) ?_
  refine AllReadyH.cons rfl (fun K hK => ?_) AllReadyH.nil
  go_simp
  refine (CD.out _).mono ?_; rintro e v6 ⟨rfl, g6⟩; have K6 := held9 g6 (by assumption)
  (try go_wp2_with fail)
  refine hK.out _ _ ?_ (fun hHeld => ?_)
  · (try dsimp only); first | assumption | go_keep
  clear hK K
  (try simp only [Act.put]); (try simp only [List.setIfInBounds_toArray]); (try simp only [List.set_cons_succ]); (try simp only [List.set_cons_zero])
  refine wpAnyH_ready (rs := [27]) (by kernel_rfl) (by simp) ?_
  refine AllReadyH.cons rfl (fun K hK => ?_) AllReadyH.nil
  go_simp
  refine (RD.out _).mono ?_; rintro e v7 ⟨rfl, g7⟩; have K7 := held9 g7 (by assumption)
  (try go_wp2_with fail)
  refine hK.out _ _ ?_ (fun hHeld => ?_)
  · (try dsimp only); first | assumption | go_keep
  clear hK K
  (try simp only [Act.put]); (try simp only [List.setIfInBounds_toArray]); (try simp only [List.set_cons_succ]); (try simp only [List.set_cons_zero])
  refine htake (i := 28) (v := ?_) (some 37) rfl rfl (by kernel_rfl) (by kernel_rfl) (by kernel_rfl) (fun _ _ _ h => h) (Or.inl ⟨by rfl, ?_⟩) (by assumption) ?_; rotate_left; (focus (intro w hSw; (try dsimp only at hSw); go_simp; (try with_reducible rfl))); (try simp only [Act.put]); (try simp only [List.setIfInBounds_toArray]); (try simp only [List.set_cons_succ]); (try simp only [List.set_cons_zero])
  refine htake (i := 29) (v := ?_) (some 38) rfl rfl (by kernel_rfl) (by kernel_rfl) (by kernel_rfl) (fun _ _ _ h => h) (Or.inl ⟨by rfl, ?_⟩) (by assumption) ?_; rotate_left; (focus (intro w hSw; (try dsimp only at hSw); go_simp; (try with_reducible rfl))); (try simp only [Act.put]); (try simp only [List.setIfInBounds_toArray]); (try simp only [List.set_cons_succ]); (try simp only [List.set_cons_zero])
  refine wpAnyH_done (by kernel_rfl) ?_ _
  have Y0 := Lib.hid (((((((X2.out.drew.trans g1).trans g2).trans g3).trans g4).trans g5).trans g6).trans g7)
  clear g1 g2 g3 g4 g5 g6 g7
  go_wp2_with fail
  refine (L1.out _).mono ?_; rintro e v8 ⟨rfl, g8⟩
  have K8 := held9 g8 K7
  have Y8 := Lib.hid (Y0.out.trans g8)
  clear g8 K7
  go_wp2_with fail
  refine (L2.out _).mono ?_; rintro e v9 ⟨rfl, g9⟩
  have K9 := held9 g9 K8
  have Y9 := Lib.hid (Y8.out.trans g9)
  clear g9 K8
  go_wp2_with fail
  refine (KA.out _).mono ?_; rintro e w9 ⟨rfl, h9⟩
  go_wp2_with fail
  go_ret
  exact ⟨rfl, Y9.out.trans h9⟩
set_option maxHeartbeats 4000000 in
theorem law_VecProducts_n (x y z u v t : Int) (i1 : ¬ In3 131072 x y z) (hk : Awake4) (w : World) :
    Calls Try.prog 3 #[.agg #[.int .i64 x, .int .i64 y, .int .i64 z], .agg #[.int .i64 u, .int .i64 v, .int .i64 t]] w fun e w' => e = .returned (.bool true) ∧ Ext w w' := by
  obtain ⟨b1, hb1⟩ : ∃ b1, b1 = decide (In3 65536 x y z) := ⟨_, rfl⟩
  obtain ⟨d1, d2, d3, hd⟩ := subIs_ex x y z u v t
  obtain ⟨p, s, q, hc⟩ := crossIs_ex x y z u v t
  obtain ⟨r, hr⟩ := dotIs_ex x y z u v t
  have CV := Lib.hid fun w => vec_Valid x y z b1 hb1 w
  have RV := Lib.hid fun w => additiveref04_Valid x y z b1 hb1 w
  have CS := Lib.hid fun w => vec_Sub x y z u v t d1 d2 d3 hd w
  have RS := Lib.hid fun w => additiveref04_Sub x y z u v t d1 d2 d3 hd w
  have CC := Lib.hid fun w => vec_Cross x y z u v t p s q hc w
  have RC := Lib.hid fun w => additiveref04_Cross x y z u v t p s q hc w
  have CD := Lib.hid fun w => vec_Dot x y z u v t r hr w
  have RD := Lib.hid fun w => additiveref04_Dot x y z u v t r hr w
  have n1 : ∀ w, (binOp .neq 23 (.agg #[.int .i64 d1, .int .i64 d2, .int .i64 d3]) (.agg #[.int .i64 d1, .int .i64 d2, .int .i64 d3])).run Try.prog w = .ok (.bool false) w := fun w => by
    rw [neq_v, decide_eq_true ⟨rfl, rfl, rfl⟩]; rfl
  have n2 : ∀ w, (binOp .neq 23 (.agg #[.int .i64 p, .int .i64 s, .int .i64 q]) (.agg #[.int .i64 p, .int .i64 s, .int .i64 q])).run Try.prog w = .ok (.bool false) w := fun w => by
    rw [neq_v, decide_eq_true ⟨rfl, rfl, rfl⟩]; rfl
  have L1 := Lib.hid fun w => law_small4 x y z false (by first | rw [decide_eq_true i1] | rw [decide_eq_false i1]) w
  obtain ⟨W, hW, hx, hS⟩ := held6_new w x y z u v t 23
  have HX := Lib.hid hx
  have KA := Lib.hid hk
  clear hb1 hd hc hr i1 hk
  go_enter Try.func3, Try.ntmps3
  go_wp2_with fail
  clear hW hx
  refine (CC.out _).mono ?_; rintro e w1 ⟨rfl, x1⟩
  have hS1 := held6 x1 hS
  have X1 := Lib.hid (HX.out.trans x1)
  have zz : w.heap.size < w1.heap.size := cell_lt hS1.1
  have zz1 : w.heap.size + 1 < w1.heap.size := cell_lt hS1.2.2.2.1
  clear x1 hS
  go_wp2_with fail
  have hS2 : (w1.alloc (.cells #[.int .i64 p, .int .i64 s, .int .i64 q] 23)).cell? ⟨w.heap.size, 0, none⟩ = some (.int .i64 x) ∧ (w1.alloc (.cells #[.int .i64 p, .int .i64 s, .int .i64 q] 23)).cell? ⟨w.heap.size, 1, none⟩ = some (.int .i64 y) ∧ (w1.alloc (.cells #[.int .i64 p, .int .i64 s, .int .i64 q] 23)).cell? ⟨w.heap.size, 2, none⟩ = some (.int .i64 z) ∧ (w1.alloc (.cells #[.int .i64 p, .int .i64 s, .int .i64 q] 23)).cell? ⟨w.heap.size + 1, 0, none⟩ = some (.int .i64 u) ∧ (w1.alloc (.cells #[.int .i64 p, .int .i64 s, .int .i64 q] 23)).cell? ⟨w.heap.size + 1, 1, none⟩ = some (.int .i64 v) ∧ (w1.alloc (.cells #[.int .i64 p, .int .i64 s, .int .i64 q] 23)).cell? ⟨w.heap.size + 1, 2, none⟩ = some (.int .i64 t) ∧ (w1.alloc (.cells #[.int .i64 p, .int .i64 s, .int .i64 q] 23)).cell? ⟨w1.heap.size, 0, none⟩ = some (.int .i64 p) ∧ (w1.alloc (.cells #[.int .i64 p, .int .i64 s, .int .i64 q] 23)).cell? ⟨w1.heap.size, 1, none⟩ = some (.int .i64 s) ∧ (w1.alloc (.cells #[.int .i64 p, .int .i64 s, .int .i64 q] 23)).cell? ⟨w1.heap.size, 2, none⟩ = some (.int .i64 q) := by
    obtain ⟨h0, h1, h2, h3, h4, h5⟩ := hS1
    refine ⟨?_, ?_, ?_, ?_, ?_, ?_, ?_, ?_, ?_⟩ <;> go_simp
  have X2 : Hid (Ext w (w1.alloc (.cells #[.int .i64 p, .int .i64 s, .int .i64 q] 23))) := Lib.hid (X1.out.alloc _)
  obtain ⟨C, hC⟩ : ∃ C, w1.heap.size = C := ⟨_, rfl⟩
  obtain ⟨W2, hW2⟩ : ∃ W2, w1.alloc (.cells #[.int .i64 p, .int .i64 s, .int .i64 q] 23) = W2 := ⟨_, rfl⟩
  rw [hW2] at hS2 X2
  rw [hC] at hS2
  simp only [hW2, hC]
  clear hW2 hS1 zz zz1 hC
  refine wp_region_held_drew (S := fun w' => w'.cell? ⟨w.heap.size, 0, none⟩ = some (.int .i64 x) ∧ w'.cell? ⟨w.heap.size, 1, none⟩ = some (.int .i64 y) ∧ w'.cell? ⟨w.heap.size, 2, none⟩ = some (.int .i64 z) ∧ w'.cell? ⟨w.heap.size + 1, 0, none⟩ = some (.int .i64 u) ∧ w'.cell? ⟨w.heap.size + 1, 1, none⟩ = some (.int .i64 v) ∧ w'.cell? ⟨w.heap.size + 1, 2, none⟩ = some (.int .i64 t) ∧ w'.cell? ⟨C, 0, none⟩ = some (.int .i64 p) ∧ w'.cell? ⟨C, 1, none⟩ = some (.int .i64 s) ∧ w'.cell? ⟨C, 2, none⟩ = some (.int .i64 q)) (by kernel_rfl) (by (try dsimp only); first | assumption | go_keep) (fun hHeld => ?_)
  refine htake (i := 0) (v := ?_) (some 9) rfl rfl (by kernel_rfl) (by kernel_rfl) (by kernel_rfl) (fun _ _ _ h => h) (Or.inl ⟨by rfl, ?_⟩) (by assumption) ?_; rotate_left; (focus (intro w hSw; (try dsimp only at hSw); go_simp; (try with_reducible rfl))); (try simp only [Act.put]); (try simp only [List.setIfInBounds_toArray]); (try simp only [List.set_cons_succ]); (try simp only [List.set_cons_zero])
  refine htake (i := 2) (v := ?_) (some 11) rfl rfl (by kernel_rfl) (by kernel_rfl) (by kernel_rfl) (fun _ _ _ h => h) (Or.inl ⟨by rfl, ?_⟩) (by assumption) ?_; rotate_left; (focus (intro w hSw; (try dsimp only at hSw); go_simp; (try with_reducible rfl))); (try simp only [Act.put]); (try simp only [List.setIfInBounds_toArray]); (try simp only [List.set_cons_succ]); (try simp only [List.set_cons_zero])
  refine wpAnyH_ready (rs := [1]) (by kernel_rfl) (by simp) ?_
  refine AllReadyH.cons rfl (fun K hK => ?_) AllReadyH.nil
  go_simp
  refine (CV.out _).mono ?_; rintro e v1 ⟨rfl, g1⟩; have K1 := held9 g1 (by assumption)
  (try go_wp2_with fail)
  refine hK.out _ _ ?_ (fun hHeld => ?_)
  · (try dsimp only); first | assumption | go_keep
  clear hK K
  (try simp only [Act.put]); (try simp only [List.setIfInBounds_toArray]); (try simp only [List.set_cons_succ]); (try simp only [List.set_cons_zero])
  refine wpAnyH_ready (rs := [3]) (by kernel_rfl) (by simp) ?_
  refine AllReadyH.cons rfl (fun K hK => ?_) AllReadyH.nil
  go_simp
  refine (RV.out _).mono ?_; rintro e v2 ⟨rfl, g2⟩; have K2 := held9 g2 (by assumption)
  (try go_wp2_with fail)
  refine hK.out _ _ ?_ (fun hHeld => ?_)
  · (try dsimp only); first | assumption | go_keep
  clear hK K
  (try simp only [Act.put]); (try simp only [List.setIfInBounds_toArray]); (try simp only [List.set_cons_succ]); (try simp only [List.set_cons_zero])
  refine htake (i := 4) (v := ?_) (some 13) rfl rfl (by kernel_rfl) (by kernel_rfl) (by kernel_rfl) (fun _ _ _ h => h) (Or.inl ⟨by rfl, ?_⟩) (by assumption) ?_; rotate_left; (focus (intro w hSw; (try dsimp only at hSw); go_simp; (try with_reducible rfl))); (try simp only [Act.put]); (try simp only [List.setIfInBounds_toArray]); (try simp only [List.set_cons_succ]); (try simp only [List.set_cons_zero])
  refine htake (i := 5) (v := ?_) (some 14) rfl rfl (by kernel_rfl) (by kernel_rfl) (by kernel_rfl) (fun _ _ _ h => h) (Or.inl ⟨by rfl, ?_⟩) (by assumption) ?_; rotate_left; (focus (intro w hSw; (try dsimp only at hSw); go_simp; (try with_reducible rfl))); (try simp only [Act.put]); (try simp only [List.setIfInBounds_toArray]); (try simp only [List.set_cons_succ]); (try simp only [List.set_cons_zero])
  refine htake (i := 6) (v := ?_) (some 15) rfl rfl (by kernel_rfl) (by kernel_rfl) (by kernel_rfl) (fun _ _ _ h => h) (Or.inl ⟨by rfl, ?_⟩) (by assumption) ?_; rotate_left; (focus (intro w hSw; (try dsimp only at hSw); go_simp; (try with_reducible rfl))); (try simp only [Act.put]); (try simp only [List.setIfInBounds_toArray]); (try simp only [List.set_cons_succ]); (try simp only [List.set_cons_zero])
  refine htake (i := 7) (v := ?_) (some 16) rfl rfl (by kernel_rfl) (by kernel_rfl) (by kernel_rfl) (fun _ _ _ h => h) (Or.inl ⟨by rfl, ?_⟩) (by assumption) ?_; rotate_left; (focus (intro w hSw; (try dsimp only at hSw); go_simp; (try with_reducible rfl))); (try simp only [Act.put]); (try simp only [List.setIfInBounds_toArray]); (try simp only [List.set_cons_succ]); (try simp only [List.set_cons_zero])
  refine htake (i := 9) (v := ?_) (some 18) rfl rfl (by kernel_rfl) (by kernel_rfl) (by kernel_rfl) (fun _ _ _ h => h) (Or.inl ⟨by rfl, ?_⟩) (by assumption) ?_; rotate_left; (focus (intro w hSw; (try dsimp only at hSw); go_simp; (try with_reducible rfl))); (try simp only [Act.put]); (try simp only [List.setIfInBounds_toArray]); (try simp only [List.set_cons_succ]); (try simp only [List.set_cons_zero])
  refine htake (i := 10) (v := ?_) (some 19) rfl rfl (by kernel_rfl) (by kernel_rfl) (by kernel_rfl) (fun _ _ _ h => h) (Or.inl ⟨by rfl, ?_⟩) (by assumption) ?_; rotate_left; (focus (intro w hSw; (try dsimp only at hSw); go_simp; (try with_reducible rfl))); (try simp only [Act.put]); (try simp only [List.setIfInBounds_toArray]); (try simp only [List.set_cons_succ]); (try simp only [List.set_cons_zero])
  refine wpAnyH_ready (rs := [8]) (by kernel_rfl) (by simp) ?_
  refine AllReadyH.cons rfl (fun K hK => ?_) AllReadyH.nil
  go_simp
  refine (CS.out _).mono ?_; rintro e v3 ⟨rfl, g3⟩; have K3 := held9 g3 (by assumption)
  (try go_wp2_with fail)
  refine hK.out _ _ ?_ (fun hHeld => ?_)
  · (try dsimp only); first | assumption | go_keep
  clear hK K
  (try simp only [Act.put]); (try simp only [List.setIfInBounds_toArray]); (try simp only [List.set_cons_succ]); (try simp only [List.set_cons_zero])
  refine wpAnyH_ready (rs := [11]) (by kernel_rfl) (by simp) ?_
  refine AllReadyH.cons rfl (fun K hK => ?_) AllReadyH.nil
  go_simp
  refine (RS.out _).mono ?_; rintro e v4 ⟨rfl, g4⟩; have K4 := held9 g4 (by assumption)
  (try go_wp2_with fail)
  refine hK.out _ _ ?_ (fun hHeld => ?_)
  · (try dsimp only); first | assumption | go_keep
  clear hK K
  (try simp only [Act.put]); (try simp only [List.setIfInBounds_toArray]); (try simp only [List.set_cons_succ]); (try simp only [List.set_cons_zero])
  refine htake (i := 12) (v := ?_) (some 21) rfl rfl (by kernel_rfl) (by kernel_rfl) (by kernel_rfl) (fun _ _ _ h => h) (Or.inl ⟨by rfl, ?_⟩) (by assumption) ?_; rotate_left; (focus (intro w hSw; (try dsimp only at hSw); go_simp; (try with_reducible rfl))); (try simp only [Act.put]); (try simp only [List.setIfInBounds_toArray]); (try simp only [List.set_cons_succ]); (try simp only [List.set_cons_zero])
  refine htake (i := 13) (v := ?_) (some 22) rfl rfl (by kernel_rfl) (by kernel_rfl) (by kernel_rfl) (fun _ _ _ h => h) (Or.inl ⟨by rfl, ?_⟩) (by assumption) ?_; rotate_left; (focus (intro w hSw; (try dsimp only at hSw); go_simp; (try with_reducible rfl))); (try simp only [Act.put]); (try simp only [List.setIfInBounds_toArray]); (try simp only [List.set_cons_succ]); (try simp only [List.set_cons_zero])
  refine htake (i := 14) (v := ?_) (some 23) rfl rfl (by kernel_rfl) (by kernel_rfl) (by kernel_rfl) (fun _ _ _ h => h) (Or.inl ⟨by rfl, ?_⟩) (by assumption) ?_; rotate_left; (focus (intro w hSw; (try dsimp only at hSw); go_simp; (try with_reducible rfl))); (try simp only [Act.put]); (try simp only [List.setIfInBounds_toArray]); (try simp only [List.set_cons_succ]); (try simp only [List.set_cons_zero])
  refine htake (i := 15) (v := ?_) (some 24) rfl rfl (by kernel_rfl) (by kernel_rfl) (by kernel_rfl) (fun _ _ _ h => h) (Or.inl ⟨by rfl, ?_⟩) (by assumption) ?_; rotate_left; (focus (intro w hSw; (try dsimp only at hSw); go_simp; (try with_reducible rfl))); (try simp only [Act.put]); (try simp only [List.setIfInBounds_toArray]); (try simp only [List.set_cons_succ]); (try simp only [List.set_cons_zero])
  refine htake (i := 16) (v := ?_) (some 25) rfl rfl (by kernel_rfl) (by kernel_rfl) (by kernel_rfl) (fun _ _ _ h => h) (Or.inl ⟨by rfl, ?_⟩) (by assumption) ?_; rotate_left; (focus (intro w hSw; (try dsimp only at hSw); go_simp; (try with_reducible rfl))); (try simp only [Act.put]); (try simp only [List.setIfInBounds_toArray]); (try simp only [List.set_cons_succ]); (try simp only [List.set_cons_zero])
  refine htake (i := 17) (v := ?_) (some 26) rfl rfl (by kernel_rfl) (by kernel_rfl) (by kernel_rfl) (fun _ _ _ h => h) (Or.inl ⟨by rfl, ?_⟩) (by assumption) ?_; rotate_left; (focus (intro w hSw; (try dsimp only at hSw); go_simp; (try with_reducible rfl))); (try simp only [Act.put]); (try simp only [List.setIfInBounds_toArray]); (try simp only [List.set_cons_succ]); (try simp only [List.set_cons_zero])
  refine wpAnyH_ready (rs := [18]) (by kernel_rfl) (by simp) ?_
  refine AllReadyH.cons rfl (fun K hK => ?_) AllReadyH.nil
  go_simp
  refine (RC.out _).mono ?_; rintro e v5 ⟨rfl, g5⟩; have K5 := held9 g5 (by assumption)
  (try go_wp2_with fail)
  refine hK.out _ _ ?_ (fun hHeld => ?_)
  · (try dsimp only); first | assumption | go_keep
  clear hK K
  (try simp only [Act.put]); (try simp only [List.setIfInBounds_toArray]); (try simp only [List.set_cons_succ]); (try simp only [List.set_cons_zero])
  refine htake (i := 19) (v := ?_) (some 28) rfl rfl (by kernel_rfl) (by kernel_rfl) (by kernel_rfl) (fun _ _ _ h => h) (Or.inl ⟨by rfl, ?_⟩) (by assumption) ?_; rotate_left; (focus (intro w hSw; (try dsimp only at hSw); go_simp; (try with_reducible rfl))); (try simp only [Act.put]); (try simp only [List.setIfInBounds_toArray]); (try simp only [List.set_cons_succ]); (try simp only [List.set_cons_zero])
  refine htake (i := 20) (v := ?_) (some 29) rfl rfl (by kernel_rfl) (by kernel_rfl) (by kernel_rfl) (fun _ _ _ h => h) (Or.inl ⟨by rfl, ?_⟩) (by assumption) ?_; rotate_left; (focus (intro w hSw; (try dsimp only at hSw); go_simp; (try with_reducible rfl))); (try simp only [Act.put]); (try simp only [List.setIfInBounds_toArray]); (try simp only [List.set_cons_succ]); (try simp only [List.set_cons_zero])
  refine htake (i := 21) (v := ?_) (some 30) rfl rfl (by kernel_rfl) (by kernel_rfl) (by kernel_rfl) (fun _ _ _ h => h) (Or.inl ⟨by rfl, ?_⟩) (by assumption) ?_; rotate_left; (focus (intro w hSw; (try dsimp only at hSw); go_simp; (try with_reducible rfl))); (try simp only [Act.put]); (try simp only [List.setIfInBounds_toArray]); (try simp only [List.set_cons_succ]); (try simp only [List.set_cons_zero])
  refine htake (i := 22) (v := ?_) (some 31) rfl rfl (by kernel_rfl) (by kernel_rfl) (by kernel_rfl) (fun _ _ _ h => h) (Or.inl ⟨by rfl, ?_⟩) (by assumption) ?_; rotate_left; (focus (intro w hSw; (try dsimp only at hSw); go_simp; (try with_reducible rfl))); (try simp only [Act.put]); (try simp only [List.setIfInBounds_toArray]); (try simp only [List.set_cons_succ]); (try simp only [List.set_cons_zero])
  refine htake (i := 23) (v := ?_) (some 32) rfl rfl (by kernel_rfl) (by kernel_rfl) (by kernel_rfl) (fun _ _ _ h => h) (Or.inl ⟨by rfl, ?_⟩) (by assumption) ?_; rotate_left; (focus (intro w hSw; (try dsimp only at hSw); go_simp; (try with_reducible rfl))); (try simp only [Act.put]); (try simp only [List.setIfInBounds_toArray]); (try simp only [List.set_cons_succ]); (try simp only [List.set_cons_zero])
  refine htake (i := 25) (v := ?_) (some 34) rfl rfl (by kernel_rfl) (by kernel_rfl) (by kernel_rfl) (fun _ _ _ h => h) (Or.inl ⟨by rfl, ?_⟩) (by assumption) ?_; rotate_left; (focus (intro w hSw; (try dsimp only at hSw); go_simp; (try with_reducible rfl))); (try simp only [Act.put]); (try simp only [List.setIfInBounds_toArray]); (try simp only [List.set_cons_succ]); (try simp only [List.set_cons_zero])
  refine htake (i := 26) (v := ?_) (some 35) rfl rfl (by kernel_rfl) (by kernel_rfl) (by kernel_rfl) (fun _ _ _ h => h) (Or.inl ⟨by rfl, ?_⟩) (by assumption) ?_; rotate_left; (focus (intro w hSw; (try dsimp only at hSw); go_simp; (try with_reducible rfl))); (try simp only [Act.put]); (try simp only [List.setIfInBounds_toArray]); (try simp only [List.set_cons_succ]); (try simp only [List.set_cons_zero])
  refine wpAnyH_ready (rs := [24]) (by kernel_rfl) (by simp) ?_
  refine AllReadyH.cons rfl (fun K hK => ?_) AllReadyH.nil
  go_simp
  refine (CD.out _).mono ?_; rintro e v6 ⟨rfl, g6⟩; have K6 := held9 g6 (by assumption)
  (try go_wp2_with fail)
  refine hK.out _ _ ?_ (fun hHeld => ?_)
  · (try dsimp only); first | assumption | go_keep
  clear hK K
  (try simp only [Act.put]); (try simp only [List.setIfInBounds_toArray]); (try simp only [List.set_cons_succ]); (try simp only [List.set_cons_zero])
  refine wpAnyH_ready (rs := [27]) (by kernel_rfl) (by simp) ?_
  refine AllReadyH.cons rfl (fun K hK => ?_) AllReadyH.nil
  go_simp
  refine (RD.out _).mono ?_; rintro e v7 ⟨rfl, g7⟩; have K7 := held9 g7 (by assumption)
  (try go_wp2_with fail)
  refine hK.out _ _ ?_ (fun hHeld => ?_)
  · (try dsimp only); first | assumption | go_keep
  clear hK K
  (try simp only [Act.put]); (try simp only [List.setIfInBounds_toArray]); (try simp only [List.set_cons_succ]); (try simp only [List.set_cons_zero])
  refine htake (i := 28) (v := ?_) (some 37) rfl rfl (by kernel_rfl) (by kernel_rfl) (by kernel_rfl) (fun _ _ _ h => h) (Or.inl ⟨by rfl, ?_⟩) (by assumption) ?_; rotate_left; (focus (intro w hSw; (try dsimp only at hSw); go_simp; (try with_reducible rfl))); (try simp only [Act.put]); (try simp only [List.setIfInBounds_toArray]); (try simp only [List.set_cons_succ]); (try simp only [List.set_cons_zero])
  refine htake (i := 29) (v := ?_) (some 38) rfl rfl (by kernel_rfl) (by kernel_rfl) (by kernel_rfl) (fun _ _ _ h => h) (Or.inl ⟨by rfl, ?_⟩) (by assumption) ?_; rotate_left; (focus (intro w hSw; (try dsimp only at hSw); go_simp; (try with_reducible rfl))); (try simp only [Act.put]); (try simp only [List.setIfInBounds_toArray]); (try simp only [List.set_cons_succ]); (try simp only [List.set_cons_zero])
  refine wpAnyH_done (by kernel_rfl) ?_ _
  have Y0 := Lib.hid (((((((X2.out.drew.trans g1).trans g2).trans g3).trans g4).trans g5).trans g6).trans g7)
  clear g1 g2 g3 g4 g5 g6 g7
  go_wp2_with fail
  refine (L1.out _).mono ?_; rintro e v8 ⟨rfl, g8⟩
  have K8 := held9 g8 K7
  have Y8 := Lib.hid (Y0.out.trans g8)
  clear g8 K7
  go_wp2_with fail
  refine (KA.out _).mono ?_; rintro e w9 ⟨rfl, h9⟩
  go_wp2_with fail
  go_ret
  exact ⟨rfl, Y8.out.trans h9⟩
theorem law_VecProducts (x y z u v t : Int) (hk : Awake4) (w : World) :
    Calls Try.prog 3 #[.agg #[.int .i64 x, .int .i64 y, .int .i64 z], .agg #[.int .i64 u, .int .i64 v, .int .i64 t]] w fun e w' => e = .returned (.bool true) ∧ Ext w w' := by
  by_cases i1 : In3 131072 x y z
  · by_cases i2 : In3 131072 u v t
    · exact law_VecProducts_ss x y z u v t i1 i2 hk w
    · exact law_VecProducts_sn x y z u v t i1 i2 hk w
  · exact law_VecProducts_n x y z u v t i1 hk w
end Go.Proofs.Ytkppbkgjfkkelaa

