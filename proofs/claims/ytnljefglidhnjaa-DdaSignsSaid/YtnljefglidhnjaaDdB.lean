/-
  At of dda, valid counts.
-/
import Derived.Test.YtnljefglidhnjaaDdB0
namespace Go.Proofs.Ytnljefglidhnjaa
open Go.RowKit
set_option maxHeartbeats 16000000 in
theorem dda_At_ok (a b c d i n j A0 A1 A2 A3 : Int) (hv : DVal a b c d) (hn : n = dom a b c d) (hj : max 0 (min i n) = j) (h0 : A0 = atv a n j) (h1 : A1 = atv b n j) (h2 : A2 = atv c n j) (h3 : A3 = atv d n j) (w : World) :
    Calls Try.prog 20 #[.agg #[.int .i64 a, .int .i64 b, .int .i64 c, .int .i64 d], .int .i64 i] w fun e w' => e = .returned (.agg #[.int .i64 A0, .int .i64 A1, .int .i64 A2, .int .i64 A3]) ∧ Ext w w' := by
  obtain ⟨i0, i1, i2, i3⟩ := idx4 a b c d
  have c1 := Lib.hid fun w => dda_DValid a b c d true (by rw [decide_eq_true hv]) w
  have c2 := Lib.hid fun w => dda_Dominant a b c d n (.inl ⟨hv, hn⟩) w
  obtain ⟨r0, r1, _⟩ := dom_range hv
  rw [← hn] at r0 r1
  obtain ⟨⟨a0, a1, b0, b1, g0, g1, d0, d1⟩, _⟩ := hv
  have j0 : 0 ≤ j := by omega
  have j1 : j ≤ n := by omega
  obtain ⟨qa, ⟨pa0, pa1⟩, ea, qa0, qa1, sa⟩ := at_parts a0 a1 r0 r1 j0 j1 h0
  obtain ⟨qb, ⟨pb0, pb1⟩, eb, qb0, qb1, sb⟩ := at_parts b0 b1 r0 r1 j0 j1 h1
  obtain ⟨qc, ⟨pc0, pc1⟩, ec, qc0, qc1, sc⟩ := at_parts g0 g1 r0 r1 j0 j1 h2
  obtain ⟨qd, ⟨pd0, pd1⟩, ed, qd0, qd1, sd⟩ := at_parts d0 d1 r0 r1 j0 j1 h3
  clear hn h0 h1 h2 h3
  rcases sa with ⟨sa, fa⟩ | ⟨sa, fa⟩ <;> rcases sb with ⟨sb, fb⟩ | ⟨sb, fb⟩ <;> rcases sc with ⟨sc, fc⟩ | ⟨sc, fc⟩ <;> rcases sd with ⟨sd, fd⟩ | ⟨sd, fd⟩
  all_goals
    go_enter Try.func20, Try.ntmps20
    go_wp2_with fail
    refine (c1.out _).mono ?_; rintro e w1 ⟨rfl, x_w1⟩
    obtain ⟨k_w1, f_w1⟩ := bcell x_w1
    have s_w1 := x_w1.size; (try simp at s_w1)
    have z0_w1 : w.heap.size < w1.heap.size := by omega
    have z1_w1 : w.heap.size + 1 < w1.heap.size := by omega
    have X_w1 := Lib.hid (show Ext w w1 from Ext.trans (by (repeat' (with_reducible first | refine Ext.drew ?_ | refine Ext.drewN ?_ _ | refine Ext.alloc ?_ _ | exact Ext.refl _ | fail | (refine Ext.setCell ?_ ?_ _; rotate_left; (focus (simp; try omega)))))) x_w1)
    clear x_w1 s_w1
    go_wp2_with fail
    refine (c2.out _).mono ?_; rintro e w2 ⟨rfl, x_w2⟩
    obtain ⟨k_w2, f_w2⟩ := bcell x_w2
    have s_w2 := x_w2.size; (try simp at s_w2)
    have z0_w2 : w.heap.size < w2.heap.size := by omega
    have z1_w2 : w.heap.size + 1 < w2.heap.size := by omega
    have X_w2 := Lib.hid (show Ext w w2 from Ext.trans (by (repeat' (with_reducible first | refine Ext.drew ?_ | refine Ext.drewN ?_ _ | refine Ext.alloc ?_ _ | exact Ext.refl _ | exact X_w1.out | (refine Ext.setCell ?_ ?_ _; rotate_left; (focus (simp; try omega)))))) x_w2)
    clear x_w2 s_w2
    go_wp2_with fail
    refine wp_loop_rounds 5 ?_
    rw [rounds_succ]; go_wp2_with fail
    rw [rounds_succ]; go_wp2_with fail
    rw [rounds_succ]; go_wp2_with fail
    rw [rounds_succ]; go_wp2_with fail
    rw [rounds_succ]; go_wp2_with fail
    exact bodyPost_ret (v := .agg #[.int .i64 A0, .int .i64 A1, .int .i64 A2, .int .i64 A3]) (by simp [results, Try.results20, go_sem, *]) rfl ⟨rfl, by (repeat' (with_reducible first | refine Ext.drew ?_ | refine Ext.drewN ?_ _ | refine Ext.alloc ?_ _ | exact Ext.refl _ | exact X_w2.out | exact X_w1.out | (refine Ext.setCell ?_ ?_ _; rotate_left; (focus (simp; try omega)))))⟩
end Go.Proofs.Ytnljefglidhnjaa

