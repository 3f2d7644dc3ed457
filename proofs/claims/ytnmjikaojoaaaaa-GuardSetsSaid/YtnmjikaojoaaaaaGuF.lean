/-
  The walks of awake and of the laws GuardSteps and GuardSets: each answers true.
-/
import Derived.Test.YtnmjikaojoaaaaaGuD
import Derived.Test.YtnmjikaojoaaaaaGuE
import Derived.Deep.RegionHeld3
namespace Go.Proofs.Ytnmjikaojoaaaaa
open Go.RowKit
theorem htakeG {P : Program} {ops : Array Oper} {Q : Exit → Act → World → Prop} {md : Region.Mode} {S : World → Prop} {i : Nat} {oi : Oper} {v : Value} {fuel : Nat} {listed : Array Bool} {a : Act} {w : World} (d : Option Tmp) (hi : ops[i]? = some oi) (hd : oi.dst = d)
    (hs : Region.noSelect ops = true) (hf : Region.free md ops listed i = true) (hr : (Region.ready md ops listed).contains i = true)
    (hQ : ∀ c a w, Q (.panic c) (a.put d v) w → Q (.panic c) a w) (hy : YieldsIf P ops S oi v a) (hS : S w)
    (h : wpAnyH P md ops Q S fuel (listed.setIfInBounds i true) (a.put d v) w) : wpAnyH P md ops Q S (fuel + 1) listed a w := by
  subst hd
  exact wpAnyH_take hi hs hf hr hQ hy hS h

theorem fieldsG : (Try.prog.fieldsOf 41).toList = [⟨"Low", 3, 0, false, "", "", 0⟩, ⟨"High", 3, 1, false, "", "", 8⟩, ⟨"Watch", 3, 2, false, "", "", 16⟩, ⟨"Rise", 3, 3, false, "", "", 24⟩, ⟨"Band", 3, 4, false, "", "", 32⟩, ⟨"Base", 3, 5, false, "", "", 40⟩, ⟨"Count", 3, 6, false, "", "", 48⟩, ⟨"Idle", 3, 7, false, "", "", 56⟩, ⟨"Quiet", 3, 8, false, "", "", 64⟩, ⟨"Fault", 3, 9, false, "", "", 72⟩, ⟨"Door", 4, 10, false, "", "", 80⟩] := by kernel_rfl
theorem eql_gsame (lo hi wa ri ba bs cn il qu fa : Int) (dr : Bool) (w : World) : (binOp .eql 41 (.agg #[.int .i64 lo, .int .i64 hi, .int .i64 wa, .int .i64 ri, .int .i64 ba, .int .i64 bs, .int .i64 cn, .int .i64 il, .int .i64 qu, .int .i64 fa, .bool dr]) (.agg #[.int .i64 lo, .int .i64 hi, .int .i64 wa, .int .i64 ri, .int .i64 ba, .int .i64 bs, .int .i64 cn, .int .i64 il, .int .i64 qu, .int .i64 fa, .bool dr])).run Try.prog w = .ok (.bool true) w := by
  have ht : Try.prog.underlying 41 = some (.struct (Try.prog.fieldsOf 41)) := by kernel_rfl
  have hp : Try.prog.stoodInHeld 41 = false := by kernel_rfl
  rw [run_eql_struct, run_equalIn_agg w 9999 41 _ _ ht hp, fieldsG]
  simp [Op.eqFields, go_sem]
theorem field_fault (lo hi wa ri ba bs cn il qu fa : Int) (dr : Bool) (w : World) : (Instr.field 41 (.agg #[.int .i64 lo, .int .i64 hi, .int .i64 wa, .int .i64 ri, .int .i64 ba, .int .i64 bs, .int .i64 cn, .int .i64 il, .int .i64 qu, .int .i64 fa, .bool dr]) 9).run Try.prog w = .ok (.int .i64 fa) w := by
  have ht : Try.prog.underlying 41 = some (.struct (Try.prog.fieldsOf 41)) := by kernel_rfl
  have hf : (Try.prog.fieldsOf 41)[9]? = some ⟨"Fault", 3, 9, false, "", "", 72⟩ := by kernel_rfl
  have hs : (Try.prog.info? 3).map (·.size) = some 1 := by kernel_rfl
  simp [Instr.field, asAgg, go_sem]
theorem law_usual (w : World) : Calls Try.prog 57 #[] w fun e w' => e = .returned (.agg #[.int .i64 (-10), .int .i64 300, .int .i64 3, .int .i64 10, .int .i64 5, .int .i64 20, .int .i64 0, .int .i64 100, .int .i64 0, .int .i64 0, .bool false]) ∧ Ext w w' := by
  go_enter Try.func57, Try.ntmps57
  go_wp2_with fail
  exact bodyPost_ret (v := .agg #[.int .i64 (-10), .int .i64 300, .int .i64 3, .int .i64 10, .int .i64 5, .int .i64 20, .int .i64 0, .int .i64 100, .int .i64 0, .int .i64 0, .bool false]) (by simp [results, Try.results57, go_sem, *]) rfl ⟨rfl, by (repeat' (with_reducible first | refine Ext.drew ?_ | refine Ext.drewN ?_ _ | refine Ext.alloc ?_ _ | exact Ext.refl _ | fail | (refine Ext.setCell ?_ ?_ _; rotate_left; (focus ((try simp); try omega)))))⟩
set_option maxHeartbeats 4000000 in
theorem law_awake (w : World) : Calls Try.prog 29 #[] w fun e w' => e = .returned (.bool true) ∧ Ext w w' := by
  have p0 := Lib.hid law_usual
  have c1 := Lib.hid fun w => guard_GStep (-10) 300 3 10 5 20 0 100 0 0 21 200 255 20 1 1 0 255 false (by decide +kernel) w
  have c2 := Lib.hid fun w => guard_GStep (-10) 300 3 10 5 20 1 100 1 0 22 200 255 20 2 2 0 255 false (by decide +kernel) w
  have c3 := Lib.hid fun w => guard_GStep (-10) 300 3 10 5 20 2 100 2 0 23 200 255 20 3 3 3 0 false (by decide +kernel) w
  have c4 := Lib.hid fun w => guard_Reset_ok (-10) 300 3 10 5 20 3 100 3 3 23 false (by decide +kernel) (by decide) (by decide) (by decide) w
  have c5 := Lib.hid fun w => guard_GValid (-10) 300 3 10 5 20 3 100 3 3 false true (by decide +kernel) w
  have f9 := fun w => field_fault (-10) 300 3 10 5 20 1 100 1 4 false w
  have c6 := Lib.hid fun w => guard_Stop_ok (-10) 300 3 10 5 20 1 100 1 0 false (by decide +kernel) w
  go_enter Try.func29, Try.ntmps29
  go_wp2_with fail
  refine (p0.out _).mono ?_; rintro e w0 ⟨rfl, x_w0⟩
  obtain ⟨k_w0, f_w0⟩ := bcell x_w0
  have X_w0 := Lib.hid (show Ext w w0 from Ext.trans (by (repeat' (with_reducible first | refine Ext.drew ?_ | refine Ext.drewN ?_ _ | refine Ext.alloc ?_ _ | exact Ext.refl _ | fail | (refine Ext.setCell ?_ ?_ _; rotate_left; (focus ((try simp); try omega)))))) x_w0)
  clear x_w0
  go_wp2_with fail
  refine (c1.out _).mono ?_; rintro e w1 ⟨rfl, x_w1⟩
  obtain ⟨k_w1, f_w1⟩ := bcell x_w1
  have X_w1 := Lib.hid (show Ext w w1 from Ext.trans (by (repeat' (with_reducible first | refine Ext.drew ?_ | refine Ext.drewN ?_ _ | refine Ext.alloc ?_ _ | exact Ext.refl _ | exact X_w0.out | (refine Ext.setCell ?_ ?_ _; rotate_left; (focus ((try simp); try omega)))))) x_w1)
  clear x_w1
  go_wp2_with fail
  refine (c2.out _).mono ?_; rintro e w2 ⟨rfl, x_w2⟩
  obtain ⟨k_w2, f_w2⟩ := bcell x_w2
  have s_w2 := x_w2.size; (try simp at s_w2)
  have z0_w2 : w1.heap.size < w2.heap.size := by omega
  have q0_w2 : w2.cell? ⟨w1.heap.size, 0, none⟩ = some (.int .i64 (-10)) := by rw [k_w2 _ _ (by first | omega | (simp; done) | (simp; omega))]; go_simp
  have q1_w2 : w2.cell? ⟨w1.heap.size, 1, none⟩ = some (.int .i64 300) := by rw [k_w2 _ _ (by first | omega | (simp; done) | (simp; omega))]; go_simp
  have q2_w2 : w2.cell? ⟨w1.heap.size, 2, none⟩ = some (.int .i64 3) := by rw [k_w2 _ _ (by first | omega | (simp; done) | (simp; omega))]; go_simp
  have q3_w2 : w2.cell? ⟨w1.heap.size, 3, none⟩ = some (.int .i64 10) := by rw [k_w2 _ _ (by first | omega | (simp; done) | (simp; omega))]; go_simp
  have q4_w2 : w2.cell? ⟨w1.heap.size, 4, none⟩ = some (.int .i64 5) := by rw [k_w2 _ _ (by first | omega | (simp; done) | (simp; omega))]; go_simp
  have q5_w2 : w2.cell? ⟨w1.heap.size, 5, none⟩ = some (.int .i64 20) := by rw [k_w2 _ _ (by first | omega | (simp; done) | (simp; omega))]; go_simp
  have q6_w2 : w2.cell? ⟨w1.heap.size, 6, none⟩ = some (.int .i64 1) := by rw [k_w2 _ _ (by first | omega | (simp; done) | (simp; omega))]; go_simp
  have q7_w2 : w2.cell? ⟨w1.heap.size, 7, none⟩ = some (.int .i64 100) := by rw [k_w2 _ _ (by first | omega | (simp; done) | (simp; omega))]; go_simp
  have q8_w2 : w2.cell? ⟨w1.heap.size, 8, none⟩ = some (.int .i64 1) := by rw [k_w2 _ _ (by first | omega | (simp; done) | (simp; omega))]; go_simp
  have q9_w2 : w2.cell? ⟨w1.heap.size, 9, none⟩ = some (.int .i64 0) := by rw [k_w2 _ _ (by first | omega | (simp; done) | (simp; omega))]; go_simp
  have q10_w2 : w2.cell? ⟨w1.heap.size, 10, none⟩ = some (.bool false) := by rw [k_w2 _ _ (by first | omega | (simp; done) | (simp; omega))]; go_simp
  have X_w2 := Lib.hid (show Ext w w2 from Ext.trans (by (repeat' (with_reducible first | refine Ext.drew ?_ | refine Ext.drewN ?_ _ | refine Ext.alloc ?_ _ | exact Ext.refl _ | exact X_w1.out | exact X_w0.out | (refine Ext.setCell ?_ ?_ _; rotate_left; (focus ((try simp); try omega)))))) x_w2)
  clear x_w2 s_w2
  go_wp2_with fail
  refine (c3.out _).mono ?_; rintro e w3 ⟨rfl, x_w3⟩
  obtain ⟨k_w3, f_w3⟩ := bcell x_w3
  have s_w3 := x_w3.size; (try simp at s_w3)
  have z0_w3 : w1.heap.size < w3.heap.size := by omega
  have q0_w3 : w3.cell? ⟨w1.heap.size, 0, none⟩ = some (.int .i64 (-10)) := by rw [k_w3 _ _ (by first | omega | (simp; done) | (simp; omega))]; go_simp
  have q1_w3 : w3.cell? ⟨w1.heap.size, 1, none⟩ = some (.int .i64 300) := by rw [k_w3 _ _ (by first | omega | (simp; done) | (simp; omega))]; go_simp
  have q2_w3 : w3.cell? ⟨w1.heap.size, 2, none⟩ = some (.int .i64 3) := by rw [k_w3 _ _ (by first | omega | (simp; done) | (simp; omega))]; go_simp
  have q3_w3 : w3.cell? ⟨w1.heap.size, 3, none⟩ = some (.int .i64 10) := by rw [k_w3 _ _ (by first | omega | (simp; done) | (simp; omega))]; go_simp
  have q4_w3 : w3.cell? ⟨w1.heap.size, 4, none⟩ = some (.int .i64 5) := by rw [k_w3 _ _ (by first | omega | (simp; done) | (simp; omega))]; go_simp
  have q5_w3 : w3.cell? ⟨w1.heap.size, 5, none⟩ = some (.int .i64 20) := by rw [k_w3 _ _ (by first | omega | (simp; done) | (simp; omega))]; go_simp
  have q6_w3 : w3.cell? ⟨w1.heap.size, 6, none⟩ = some (.int .i64 1) := by rw [k_w3 _ _ (by first | omega | (simp; done) | (simp; omega))]; go_simp
  have q7_w3 : w3.cell? ⟨w1.heap.size, 7, none⟩ = some (.int .i64 100) := by rw [k_w3 _ _ (by first | omega | (simp; done) | (simp; omega))]; go_simp
  have q8_w3 : w3.cell? ⟨w1.heap.size, 8, none⟩ = some (.int .i64 1) := by rw [k_w3 _ _ (by first | omega | (simp; done) | (simp; omega))]; go_simp
  have q9_w3 : w3.cell? ⟨w1.heap.size, 9, none⟩ = some (.int .i64 0) := by rw [k_w3 _ _ (by first | omega | (simp; done) | (simp; omega))]; go_simp
  have q10_w3 : w3.cell? ⟨w1.heap.size, 10, none⟩ = some (.bool false) := by rw [k_w3 _ _ (by first | omega | (simp; done) | (simp; omega))]; go_simp
  have X_w3 := Lib.hid (show Ext w w3 from Ext.trans (by (repeat' (with_reducible first | refine Ext.drew ?_ | refine Ext.drewN ?_ _ | refine Ext.alloc ?_ _ | exact Ext.refl _ | exact X_w2.out | exact X_w1.out | exact X_w0.out | (refine Ext.setCell ?_ ?_ _; rotate_left; (focus ((try simp); try omega)))))) x_w3)
  clear x_w3 s_w3
  go_wp2_with fail
  refine (c4.out _).mono ?_; rintro e w4 ⟨rfl, x_w4⟩
  obtain ⟨k_w4, f_w4⟩ := bcell x_w4
  have s_w4 := x_w4.size; (try simp at s_w4)
  have z0_w4 : w1.heap.size < w4.heap.size := by omega
  have z1_w4 : w3.heap.size < w4.heap.size := by omega
  have q0_w4 : w4.cell? ⟨w1.heap.size, 0, none⟩ = some (.int .i64 (-10)) := by rw [k_w4 _ _ (by first | omega | (simp; done) | (simp; omega))]; go_simp
  have q1_w4 : w4.cell? ⟨w1.heap.size, 1, none⟩ = some (.int .i64 300) := by rw [k_w4 _ _ (by first | omega | (simp; done) | (simp; omega))]; go_simp
  have q2_w4 : w4.cell? ⟨w1.heap.size, 2, none⟩ = some (.int .i64 3) := by rw [k_w4 _ _ (by first | omega | (simp; done) | (simp; omega))]; go_simp
  have q3_w4 : w4.cell? ⟨w1.heap.size, 3, none⟩ = some (.int .i64 10) := by rw [k_w4 _ _ (by first | omega | (simp; done) | (simp; omega))]; go_simp
  have q4_w4 : w4.cell? ⟨w1.heap.size, 4, none⟩ = some (.int .i64 5) := by rw [k_w4 _ _ (by first | omega | (simp; done) | (simp; omega))]; go_simp
  have q5_w4 : w4.cell? ⟨w1.heap.size, 5, none⟩ = some (.int .i64 20) := by rw [k_w4 _ _ (by first | omega | (simp; done) | (simp; omega))]; go_simp
  have q6_w4 : w4.cell? ⟨w1.heap.size, 6, none⟩ = some (.int .i64 1) := by rw [k_w4 _ _ (by first | omega | (simp; done) | (simp; omega))]; go_simp
  have q7_w4 : w4.cell? ⟨w1.heap.size, 7, none⟩ = some (.int .i64 100) := by rw [k_w4 _ _ (by first | omega | (simp; done) | (simp; omega))]; go_simp
  have q8_w4 : w4.cell? ⟨w1.heap.size, 8, none⟩ = some (.int .i64 1) := by rw [k_w4 _ _ (by first | omega | (simp; done) | (simp; omega))]; go_simp
  have q9_w4 : w4.cell? ⟨w1.heap.size, 9, none⟩ = some (.int .i64 0) := by rw [k_w4 _ _ (by first | omega | (simp; done) | (simp; omega))]; go_simp
  have q10_w4 : w4.cell? ⟨w1.heap.size, 10, none⟩ = some (.bool false) := by rw [k_w4 _ _ (by first | omega | (simp; done) | (simp; omega))]; go_simp
  have q11_w4 : w4.cell? ⟨w3.heap.size, 0, none⟩ = some (.int .i64 (-10)) := by rw [k_w4 _ _ (by first | omega | (simp; done) | (simp; omega))]; go_simp
  have q12_w4 : w4.cell? ⟨w3.heap.size, 1, none⟩ = some (.int .i64 300) := by rw [k_w4 _ _ (by first | omega | (simp; done) | (simp; omega))]; go_simp
  have q13_w4 : w4.cell? ⟨w3.heap.size, 2, none⟩ = some (.int .i64 3) := by rw [k_w4 _ _ (by first | omega | (simp; done) | (simp; omega))]; go_simp
  have q14_w4 : w4.cell? ⟨w3.heap.size, 3, none⟩ = some (.int .i64 10) := by rw [k_w4 _ _ (by first | omega | (simp; done) | (simp; omega))]; go_simp
  have q15_w4 : w4.cell? ⟨w3.heap.size, 4, none⟩ = some (.int .i64 5) := by rw [k_w4 _ _ (by first | omega | (simp; done) | (simp; omega))]; go_simp
  have q16_w4 : w4.cell? ⟨w3.heap.size, 5, none⟩ = some (.int .i64 20) := by rw [k_w4 _ _ (by first | omega | (simp; done) | (simp; omega))]; go_simp
  have q17_w4 : w4.cell? ⟨w3.heap.size, 6, none⟩ = some (.int .i64 3) := by rw [k_w4 _ _ (by first | omega | (simp; done) | (simp; omega))]; go_simp
  have q18_w4 : w4.cell? ⟨w3.heap.size, 7, none⟩ = some (.int .i64 100) := by rw [k_w4 _ _ (by first | omega | (simp; done) | (simp; omega))]; go_simp
  have q19_w4 : w4.cell? ⟨w3.heap.size, 8, none⟩ = some (.int .i64 3) := by rw [k_w4 _ _ (by first | omega | (simp; done) | (simp; omega))]; go_simp
  have q20_w4 : w4.cell? ⟨w3.heap.size, 9, none⟩ = some (.int .i64 3) := by rw [k_w4 _ _ (by first | omega | (simp; done) | (simp; omega))]; go_simp
  have q21_w4 : w4.cell? ⟨w3.heap.size, 10, none⟩ = some (.bool false) := by rw [k_w4 _ _ (by first | omega | (simp; done) | (simp; omega))]; go_simp
  have X_w4 := Lib.hid (show Ext w w4 from Ext.trans (by (repeat' (with_reducible first | refine Ext.drew ?_ | refine Ext.drewN ?_ _ | refine Ext.alloc ?_ _ | exact Ext.refl _ | exact X_w3.out | exact X_w2.out | exact X_w1.out | exact X_w0.out | (refine Ext.setCell ?_ ?_ _; rotate_left; (focus ((try simp); try omega)))))) x_w4)
  clear x_w4 s_w4
  go_wp2_with fail
  refine (c5.out _).mono ?_; rintro e w5 ⟨rfl, x_w5⟩
  obtain ⟨k_w5, f_w5⟩ := bcell x_w5
  have s_w5 := x_w5.size; (try simp at s_w5)
  have z0_w5 : w1.heap.size < w5.heap.size := by omega
  have q0_w5 : w5.cell? ⟨w1.heap.size, 0, none⟩ = some (.int .i64 (-10)) := by rw [k_w5 _ _ (by first | omega | (simp; done) | (simp; omega))]; go_simp
  have q1_w5 : w5.cell? ⟨w1.heap.size, 1, none⟩ = some (.int .i64 300) := by rw [k_w5 _ _ (by first | omega | (simp; done) | (simp; omega))]; go_simp
  have q2_w5 : w5.cell? ⟨w1.heap.size, 2, none⟩ = some (.int .i64 3) := by rw [k_w5 _ _ (by first | omega | (simp; done) | (simp; omega))]; go_simp
  have q3_w5 : w5.cell? ⟨w1.heap.size, 3, none⟩ = some (.int .i64 10) := by rw [k_w5 _ _ (by first | omega | (simp; done) | (simp; omega))]; go_simp
  have q4_w5 : w5.cell? ⟨w1.heap.size, 4, none⟩ = some (.int .i64 5) := by rw [k_w5 _ _ (by first | omega | (simp; done) | (simp; omega))]; go_simp
  have q5_w5 : w5.cell? ⟨w1.heap.size, 5, none⟩ = some (.int .i64 20) := by rw [k_w5 _ _ (by first | omega | (simp; done) | (simp; omega))]; go_simp
  have q6_w5 : w5.cell? ⟨w1.heap.size, 6, none⟩ = some (.int .i64 1) := by rw [k_w5 _ _ (by first | omega | (simp; done) | (simp; omega))]; go_simp
  have q7_w5 : w5.cell? ⟨w1.heap.size, 7, none⟩ = some (.int .i64 100) := by rw [k_w5 _ _ (by first | omega | (simp; done) | (simp; omega))]; go_simp
  have q8_w5 : w5.cell? ⟨w1.heap.size, 8, none⟩ = some (.int .i64 1) := by rw [k_w5 _ _ (by first | omega | (simp; done) | (simp; omega))]; go_simp
  have q9_w5 : w5.cell? ⟨w1.heap.size, 9, none⟩ = some (.int .i64 0) := by rw [k_w5 _ _ (by first | omega | (simp; done) | (simp; omega))]; go_simp
  have q10_w5 : w5.cell? ⟨w1.heap.size, 10, none⟩ = some (.bool false) := by rw [k_w5 _ _ (by first | omega | (simp; done) | (simp; omega))]; go_simp
  have X_w5 := Lib.hid (show Ext w w5 from Ext.trans (by (repeat' (with_reducible first | refine Ext.drew ?_ | refine Ext.drewN ?_ _ | refine Ext.alloc ?_ _ | exact Ext.refl _ | exact X_w4.out | exact X_w3.out | exact X_w2.out | exact X_w1.out | exact X_w0.out | (refine Ext.setCell ?_ ?_ _; rotate_left; (focus ((try simp); try omega)))))) x_w5)
  clear x_w5 s_w5
  go_wp2_with fail
  refine (c6.out _).mono ?_; rintro e w6 ⟨rfl, x_w6⟩
  obtain ⟨k_w6, f_w6⟩ := bcell x_w6
  have X_w6 := Lib.hid (show Ext w w6 from Ext.trans (by (repeat' (with_reducible first | refine Ext.drew ?_ | refine Ext.drewN ?_ _ | refine Ext.alloc ?_ _ | exact Ext.refl _ | exact X_w5.out | exact X_w4.out | exact X_w3.out | exact X_w2.out | exact X_w1.out | exact X_w0.out | (refine Ext.setCell ?_ ?_ _; rotate_left; (focus ((try simp); try omega)))))) x_w6)
  clear x_w6
  go_wp2_with fail
  go_ret
  exact ⟨rfl, by (repeat' (with_reducible first | refine Ext.drew ?_ | refine Ext.drewN ?_ _ | refine Ext.alloc ?_ _ | exact Ext.refl _ | exact X_w6.out | exact X_w5.out | exact X_w4.out | exact X_w3.out | exact X_w2.out | exact X_w1.out | exact X_w0.out | (refine Ext.setCell ?_ ?_ _; rotate_left; (focus ((try simp); try omega)))))⟩
set_option maxHeartbeats 8000000 in
theorem law_GuardSteps (lo hi wa ri ba bs cn il qu fa : Int) (dr : Bool) (r t d : Int) (w : World) : Calls Try.prog 8 #[.agg #[.int .i64 lo, .int .i64 hi, .int .i64 wa, .int .i64 ri, .int .i64 ba, .int .i64 bs, .int .i64 cn, .int .i64 il, .int .i64 qu, .int .i64 fa, .bool dr], .int .i64 r, .int .i64 t, .int .i64 d] w fun e w' => e = .returned (.bool true) ∧ Ext w w' := by
  have ka := Lib.hid law_awake
  obtain ⟨bs', cn', qu', fa', k, h⟩ : ∃ bs' cn' qu' fa' k, gst lo hi wa ri ba bs cn il qu fa dr r t d = (bs', cn', qu', fa', k) := ⟨_, _, _, _, _, rfl⟩
  obtain ⟨b, hb⟩ : ∃ b, b = decide (GVal lo hi wa ri ba bs cn il qu fa) := ⟨_, rfl⟩
  have c1 := Lib.hid fun w => guard_GStep lo hi wa ri ba bs cn il qu fa r t d bs' cn' qu' fa' k dr h w
  have c2 := Lib.hid fun w => additiveref50_GStep lo hi wa ri ba bs cn il qu fa r t d bs' cn' qu' fa' k dr h w
  have c3 := Lib.hid fun w => guard_GValid lo hi wa ri ba bs cn il qu fa dr b hb w
  have c4 := Lib.hid fun w => ref_GValid lo hi wa ri ba bs cn il qu fa dr b hb w
  have e1 := fun w => eql_gsame lo hi wa ri ba bs' cn' il qu' fa' dr w
  have e2 := beq_t (rfl : k = k)
  have e3 : (b == b) = true := by simp
  clear h hb
  go_enter Try.func8, Try.ntmps8
  go_wp2_with fail
  refine (c1.out _).mono ?_; rintro e w1 ⟨rfl, x_w1⟩
  obtain ⟨k_w1, f_w1⟩ := bcell x_w1
  have s_w1 := x_w1.size; (try simp at s_w1)
  have z0_w1 : w.heap.size < w1.heap.size := by omega
  have q0_w1 : w1.cell? ⟨w.heap.size, 0, none⟩ = some (.int .i64 lo) := by rw [k_w1 _ _ (by first | omega | (simp; done) | (simp; omega))]; go_simp
  have q1_w1 : w1.cell? ⟨w.heap.size, 1, none⟩ = some (.int .i64 hi) := by rw [k_w1 _ _ (by first | omega | (simp; done) | (simp; omega))]; go_simp
  have q2_w1 : w1.cell? ⟨w.heap.size, 2, none⟩ = some (.int .i64 wa) := by rw [k_w1 _ _ (by first | omega | (simp; done) | (simp; omega))]; go_simp
  have q3_w1 : w1.cell? ⟨w.heap.size, 3, none⟩ = some (.int .i64 ri) := by rw [k_w1 _ _ (by first | omega | (simp; done) | (simp; omega))]; go_simp
  have q4_w1 : w1.cell? ⟨w.heap.size, 4, none⟩ = some (.int .i64 ba) := by rw [k_w1 _ _ (by first | omega | (simp; done) | (simp; omega))]; go_simp
  have q5_w1 : w1.cell? ⟨w.heap.size, 5, none⟩ = some (.int .i64 bs) := by rw [k_w1 _ _ (by first | omega | (simp; done) | (simp; omega))]; go_simp
  have q6_w1 : w1.cell? ⟨w.heap.size, 6, none⟩ = some (.int .i64 cn) := by rw [k_w1 _ _ (by first | omega | (simp; done) | (simp; omega))]; go_simp
  have q7_w1 : w1.cell? ⟨w.heap.size, 7, none⟩ = some (.int .i64 il) := by rw [k_w1 _ _ (by first | omega | (simp; done) | (simp; omega))]; go_simp
  have q8_w1 : w1.cell? ⟨w.heap.size, 8, none⟩ = some (.int .i64 qu) := by rw [k_w1 _ _ (by first | omega | (simp; done) | (simp; omega))]; go_simp
  have q9_w1 : w1.cell? ⟨w.heap.size, 9, none⟩ = some (.int .i64 fa) := by rw [k_w1 _ _ (by first | omega | (simp; done) | (simp; omega))]; go_simp
  have q10_w1 : w1.cell? ⟨w.heap.size, 10, none⟩ = some (.bool dr) := by rw [k_w1 _ _ (by first | omega | (simp; done) | (simp; omega))]; go_simp
  have X_w1 := Lib.hid (show Ext w w1 from Ext.trans (by (repeat' (with_reducible first | refine Ext.drew ?_ | refine Ext.drewN ?_ _ | refine Ext.alloc ?_ _ | exact Ext.refl _ | fail | (refine Ext.setCell ?_ ?_ _; rotate_left; (focus ((try simp); try omega)))))) x_w1)
  clear x_w1 s_w1
  go_wp2_with fail
  refine (c2.out _).mono ?_; rintro e w2 ⟨rfl, x_w2⟩
  obtain ⟨k_w2, f_w2⟩ := bcell x_w2
  have s_w2 := x_w2.size; (try simp at s_w2)
  have z0_w2 : w.heap.size < w2.heap.size := by omega
  have z1_w2 : w1.heap.size < w2.heap.size := by omega
  have q0_w2 : w2.cell? ⟨w.heap.size, 0, none⟩ = some (.int .i64 lo) := by rw [k_w2 _ _ (by first | omega | (simp; done) | (simp; omega))]; go_simp
  have q1_w2 : w2.cell? ⟨w.heap.size, 1, none⟩ = some (.int .i64 hi) := by rw [k_w2 _ _ (by first | omega | (simp; done) | (simp; omega))]; go_simp
  have q2_w2 : w2.cell? ⟨w.heap.size, 2, none⟩ = some (.int .i64 wa) := by rw [k_w2 _ _ (by first | omega | (simp; done) | (simp; omega))]; go_simp
  have q3_w2 : w2.cell? ⟨w.heap.size, 3, none⟩ = some (.int .i64 ri) := by rw [k_w2 _ _ (by first | omega | (simp; done) | (simp; omega))]; go_simp
  have q4_w2 : w2.cell? ⟨w.heap.size, 4, none⟩ = some (.int .i64 ba) := by rw [k_w2 _ _ (by first | omega | (simp; done) | (simp; omega))]; go_simp
  have q5_w2 : w2.cell? ⟨w.heap.size, 5, none⟩ = some (.int .i64 bs) := by rw [k_w2 _ _ (by first | omega | (simp; done) | (simp; omega))]; go_simp
  have q6_w2 : w2.cell? ⟨w.heap.size, 6, none⟩ = some (.int .i64 cn) := by rw [k_w2 _ _ (by first | omega | (simp; done) | (simp; omega))]; go_simp
  have q7_w2 : w2.cell? ⟨w.heap.size, 7, none⟩ = some (.int .i64 il) := by rw [k_w2 _ _ (by first | omega | (simp; done) | (simp; omega))]; go_simp
  have q8_w2 : w2.cell? ⟨w.heap.size, 8, none⟩ = some (.int .i64 qu) := by rw [k_w2 _ _ (by first | omega | (simp; done) | (simp; omega))]; go_simp
  have q9_w2 : w2.cell? ⟨w.heap.size, 9, none⟩ = some (.int .i64 fa) := by rw [k_w2 _ _ (by first | omega | (simp; done) | (simp; omega))]; go_simp
  have q10_w2 : w2.cell? ⟨w.heap.size, 10, none⟩ = some (.bool dr) := by rw [k_w2 _ _ (by first | omega | (simp; done) | (simp; omega))]; go_simp
  have q11_w2 : w2.cell? ⟨w1.heap.size, 0, none⟩ = some (.int .i64 lo) := by rw [k_w2 _ _ (by first | omega | (simp; done) | (simp; omega))]; go_simp
  have q12_w2 : w2.cell? ⟨w1.heap.size, 1, none⟩ = some (.int .i64 hi) := by rw [k_w2 _ _ (by first | omega | (simp; done) | (simp; omega))]; go_simp
  have q13_w2 : w2.cell? ⟨w1.heap.size, 2, none⟩ = some (.int .i64 wa) := by rw [k_w2 _ _ (by first | omega | (simp; done) | (simp; omega))]; go_simp
  have q14_w2 : w2.cell? ⟨w1.heap.size, 3, none⟩ = some (.int .i64 ri) := by rw [k_w2 _ _ (by first | omega | (simp; done) | (simp; omega))]; go_simp
  have q15_w2 : w2.cell? ⟨w1.heap.size, 4, none⟩ = some (.int .i64 ba) := by rw [k_w2 _ _ (by first | omega | (simp; done) | (simp; omega))]; go_simp
  have q16_w2 : w2.cell? ⟨w1.heap.size, 5, none⟩ = some (.int .i64 bs') := by rw [k_w2 _ _ (by first | omega | (simp; done) | (simp; omega))]; go_simp
  have q17_w2 : w2.cell? ⟨w1.heap.size, 6, none⟩ = some (.int .i64 cn') := by rw [k_w2 _ _ (by first | omega | (simp; done) | (simp; omega))]; go_simp
  have q18_w2 : w2.cell? ⟨w1.heap.size, 7, none⟩ = some (.int .i64 il) := by rw [k_w2 _ _ (by first | omega | (simp; done) | (simp; omega))]; go_simp
  have q19_w2 : w2.cell? ⟨w1.heap.size, 8, none⟩ = some (.int .i64 qu') := by rw [k_w2 _ _ (by first | omega | (simp; done) | (simp; omega))]; go_simp
  have q20_w2 : w2.cell? ⟨w1.heap.size, 9, none⟩ = some (.int .i64 fa') := by rw [k_w2 _ _ (by first | omega | (simp; done) | (simp; omega))]; go_simp
  have q21_w2 : w2.cell? ⟨w1.heap.size, 10, none⟩ = some (.bool dr) := by rw [k_w2 _ _ (by first | omega | (simp; done) | (simp; omega))]; go_simp
  have X_w2 := Lib.hid (show Ext w w2 from Ext.trans (by (repeat' (with_reducible first | refine Ext.drew ?_ | refine Ext.drewN ?_ _ | refine Ext.alloc ?_ _ | exact Ext.refl _ | exact X_w1.out | (refine Ext.setCell ?_ ?_ _; rotate_left; (focus ((try simp); try omega)))))) x_w2)
  clear x_w2 s_w2
  go_wp2_with fail
  refine wp_world fun W h_W => ?_
  have q0_W : W.cell? ⟨w.heap.size, 0, none⟩ = some (.int .i64 lo) := by rw [h_W]; go_simp
  have u0_W : ∀ w', Ext W w' → w'.cell? ⟨w.heap.size, 0, none⟩ = some (.int .i64 lo) := fun _ h => h.keep q0_W
  have q1_W : W.cell? ⟨w.heap.size, 1, none⟩ = some (.int .i64 hi) := by rw [h_W]; go_simp
  have u1_W : ∀ w', Ext W w' → w'.cell? ⟨w.heap.size, 1, none⟩ = some (.int .i64 hi) := fun _ h => h.keep q1_W
  have q2_W : W.cell? ⟨w.heap.size, 2, none⟩ = some (.int .i64 wa) := by rw [h_W]; go_simp
  have u2_W : ∀ w', Ext W w' → w'.cell? ⟨w.heap.size, 2, none⟩ = some (.int .i64 wa) := fun _ h => h.keep q2_W
  have q3_W : W.cell? ⟨w.heap.size, 3, none⟩ = some (.int .i64 ri) := by rw [h_W]; go_simp
  have u3_W : ∀ w', Ext W w' → w'.cell? ⟨w.heap.size, 3, none⟩ = some (.int .i64 ri) := fun _ h => h.keep q3_W
  have q4_W : W.cell? ⟨w.heap.size, 4, none⟩ = some (.int .i64 ba) := by rw [h_W]; go_simp
  have u4_W : ∀ w', Ext W w' → w'.cell? ⟨w.heap.size, 4, none⟩ = some (.int .i64 ba) := fun _ h => h.keep q4_W
  have q5_W : W.cell? ⟨w.heap.size, 5, none⟩ = some (.int .i64 bs) := by rw [h_W]; go_simp
  have u5_W : ∀ w', Ext W w' → w'.cell? ⟨w.heap.size, 5, none⟩ = some (.int .i64 bs) := fun _ h => h.keep q5_W
  have q6_W : W.cell? ⟨w.heap.size, 6, none⟩ = some (.int .i64 cn) := by rw [h_W]; go_simp
  have u6_W : ∀ w', Ext W w' → w'.cell? ⟨w.heap.size, 6, none⟩ = some (.int .i64 cn) := fun _ h => h.keep q6_W
  have q7_W : W.cell? ⟨w.heap.size, 7, none⟩ = some (.int .i64 il) := by rw [h_W]; go_simp
  have u7_W : ∀ w', Ext W w' → w'.cell? ⟨w.heap.size, 7, none⟩ = some (.int .i64 il) := fun _ h => h.keep q7_W
  have q8_W : W.cell? ⟨w.heap.size, 8, none⟩ = some (.int .i64 qu) := by rw [h_W]; go_simp
  have u8_W : ∀ w', Ext W w' → w'.cell? ⟨w.heap.size, 8, none⟩ = some (.int .i64 qu) := fun _ h => h.keep q8_W
  have q9_W : W.cell? ⟨w.heap.size, 9, none⟩ = some (.int .i64 fa) := by rw [h_W]; go_simp
  have u9_W : ∀ w', Ext W w' → w'.cell? ⟨w.heap.size, 9, none⟩ = some (.int .i64 fa) := fun _ h => h.keep q9_W
  have q10_W : W.cell? ⟨w.heap.size, 10, none⟩ = some (.bool dr) := by rw [h_W]; go_simp
  have u10_W : ∀ w', Ext W w' → w'.cell? ⟨w.heap.size, 10, none⟩ = some (.bool dr) := fun _ h => h.keep q10_W
  have q11_W : W.cell? ⟨w1.heap.size, 0, none⟩ = some (.int .i64 lo) := by rw [h_W]; go_simp
  have u11_W : ∀ w', Ext W w' → w'.cell? ⟨w1.heap.size, 0, none⟩ = some (.int .i64 lo) := fun _ h => h.keep q11_W
  have q12_W : W.cell? ⟨w1.heap.size, 1, none⟩ = some (.int .i64 hi) := by rw [h_W]; go_simp
  have u12_W : ∀ w', Ext W w' → w'.cell? ⟨w1.heap.size, 1, none⟩ = some (.int .i64 hi) := fun _ h => h.keep q12_W
  have q13_W : W.cell? ⟨w1.heap.size, 2, none⟩ = some (.int .i64 wa) := by rw [h_W]; go_simp
  have u13_W : ∀ w', Ext W w' → w'.cell? ⟨w1.heap.size, 2, none⟩ = some (.int .i64 wa) := fun _ h => h.keep q13_W
  have q14_W : W.cell? ⟨w1.heap.size, 3, none⟩ = some (.int .i64 ri) := by rw [h_W]; go_simp
  have u14_W : ∀ w', Ext W w' → w'.cell? ⟨w1.heap.size, 3, none⟩ = some (.int .i64 ri) := fun _ h => h.keep q14_W
  have q15_W : W.cell? ⟨w1.heap.size, 4, none⟩ = some (.int .i64 ba) := by rw [h_W]; go_simp
  have u15_W : ∀ w', Ext W w' → w'.cell? ⟨w1.heap.size, 4, none⟩ = some (.int .i64 ba) := fun _ h => h.keep q15_W
  have q16_W : W.cell? ⟨w1.heap.size, 5, none⟩ = some (.int .i64 bs') := by rw [h_W]; go_simp
  have u16_W : ∀ w', Ext W w' → w'.cell? ⟨w1.heap.size, 5, none⟩ = some (.int .i64 bs') := fun _ h => h.keep q16_W
  have q17_W : W.cell? ⟨w1.heap.size, 6, none⟩ = some (.int .i64 cn') := by rw [h_W]; go_simp
  have u17_W : ∀ w', Ext W w' → w'.cell? ⟨w1.heap.size, 6, none⟩ = some (.int .i64 cn') := fun _ h => h.keep q17_W
  have q18_W : W.cell? ⟨w1.heap.size, 7, none⟩ = some (.int .i64 il) := by rw [h_W]; go_simp
  have u18_W : ∀ w', Ext W w' → w'.cell? ⟨w1.heap.size, 7, none⟩ = some (.int .i64 il) := fun _ h => h.keep q18_W
  have q19_W : W.cell? ⟨w1.heap.size, 8, none⟩ = some (.int .i64 qu') := by rw [h_W]; go_simp
  have u19_W : ∀ w', Ext W w' → w'.cell? ⟨w1.heap.size, 8, none⟩ = some (.int .i64 qu') := fun _ h => h.keep q19_W
  have q20_W : W.cell? ⟨w1.heap.size, 9, none⟩ = some (.int .i64 fa') := by rw [h_W]; go_simp
  have u20_W : ∀ w', Ext W w' → w'.cell? ⟨w1.heap.size, 9, none⟩ = some (.int .i64 fa') := fun _ h => h.keep q20_W
  have q21_W : W.cell? ⟨w1.heap.size, 10, none⟩ = some (.bool dr) := by rw [h_W]; go_simp
  have u21_W : ∀ w', Ext W w' → w'.cell? ⟨w1.heap.size, 10, none⟩ = some (.bool dr) := fun _ h => h.keep q21_W
  have q22_W : W.cell? ⟨w2.heap.size, 0, none⟩ = some (.int .i64 lo) := by rw [h_W]; go_simp
  have u22_W : ∀ w', Ext W w' → w'.cell? ⟨w2.heap.size, 0, none⟩ = some (.int .i64 lo) := fun _ h => h.keep q22_W
  have q23_W : W.cell? ⟨w2.heap.size, 1, none⟩ = some (.int .i64 hi) := by rw [h_W]; go_simp
  have u23_W : ∀ w', Ext W w' → w'.cell? ⟨w2.heap.size, 1, none⟩ = some (.int .i64 hi) := fun _ h => h.keep q23_W
  have q24_W : W.cell? ⟨w2.heap.size, 2, none⟩ = some (.int .i64 wa) := by rw [h_W]; go_simp
  have u24_W : ∀ w', Ext W w' → w'.cell? ⟨w2.heap.size, 2, none⟩ = some (.int .i64 wa) := fun _ h => h.keep q24_W
  have q25_W : W.cell? ⟨w2.heap.size, 3, none⟩ = some (.int .i64 ri) := by rw [h_W]; go_simp
  have u25_W : ∀ w', Ext W w' → w'.cell? ⟨w2.heap.size, 3, none⟩ = some (.int .i64 ri) := fun _ h => h.keep q25_W
  have q26_W : W.cell? ⟨w2.heap.size, 4, none⟩ = some (.int .i64 ba) := by rw [h_W]; go_simp
  have u26_W : ∀ w', Ext W w' → w'.cell? ⟨w2.heap.size, 4, none⟩ = some (.int .i64 ba) := fun _ h => h.keep q26_W
  have q27_W : W.cell? ⟨w2.heap.size, 5, none⟩ = some (.int .i64 bs') := by rw [h_W]; go_simp
  have u27_W : ∀ w', Ext W w' → w'.cell? ⟨w2.heap.size, 5, none⟩ = some (.int .i64 bs') := fun _ h => h.keep q27_W
  have q28_W : W.cell? ⟨w2.heap.size, 6, none⟩ = some (.int .i64 cn') := by rw [h_W]; go_simp
  have u28_W : ∀ w', Ext W w' → w'.cell? ⟨w2.heap.size, 6, none⟩ = some (.int .i64 cn') := fun _ h => h.keep q28_W
  have q29_W : W.cell? ⟨w2.heap.size, 7, none⟩ = some (.int .i64 il) := by rw [h_W]; go_simp
  have u29_W : ∀ w', Ext W w' → w'.cell? ⟨w2.heap.size, 7, none⟩ = some (.int .i64 il) := fun _ h => h.keep q29_W
  have q30_W : W.cell? ⟨w2.heap.size, 8, none⟩ = some (.int .i64 qu') := by rw [h_W]; go_simp
  have u30_W : ∀ w', Ext W w' → w'.cell? ⟨w2.heap.size, 8, none⟩ = some (.int .i64 qu') := fun _ h => h.keep q30_W
  have q31_W : W.cell? ⟨w2.heap.size, 9, none⟩ = some (.int .i64 fa') := by rw [h_W]; go_simp
  have u31_W : ∀ w', Ext W w' → w'.cell? ⟨w2.heap.size, 9, none⟩ = some (.int .i64 fa') := fun _ h => h.keep q31_W
  have q32_W : W.cell? ⟨w2.heap.size, 10, none⟩ = some (.bool dr) := by rw [h_W]; go_simp
  have u32_W : ∀ w', Ext W w' → w'.cell? ⟨w2.heap.size, 10, none⟩ = some (.bool dr) := fun _ h => h.keep q32_W
  have X_W := Lib.hid (show Ext w W by rw [h_W]; exact (by (repeat' (with_reducible first | refine Ext.drew ?_ | refine Ext.drewN ?_ _ | refine Ext.alloc ?_ _ | exact Ext.refl _ | exact X_w2.out | exact X_w1.out | (refine Ext.setCell ?_ ?_ _; rotate_left; (focus ((try simp); try omega)))))))
  clear h_W
  refine wp_region_held_drew (S := fun w' => Ext W w') (by kernel_rfl) (by (try dsimp only); (repeat' (with_reducible first | assumption | refine Ext.drew ?_ | refine Ext.drewN ?_ _ | exact Ext.refl _))) (fun hHeld => ?_)
  refine htakeG (i := 0) (v := ?_) (some 29) rfl rfl (by kernel_rfl) (by kernel_rfl) (by kernel_rfl) (fun _ _ _ h => h) (Or.inl ⟨by rfl, ?_⟩) (by assumption) ?_; rotate_left; (focus (intro w hSw; (try dsimp only at hSw); go_simp; (try with_reducible rfl))); (try simp only [Act.put, List.setIfInBounds_toArray]); (try dsimp only [List.set_cons_succ, List.set_cons_zero])
  refine htakeG (i := 1) (v := ?_) (some 30) rfl rfl (by kernel_rfl) (by kernel_rfl) (by kernel_rfl) (fun _ _ _ h => h) (Or.inl ⟨by rfl, ?_⟩) (by assumption) ?_; rotate_left; (focus (intro w hSw; (try dsimp only at hSw); go_simp; (try with_reducible rfl))); (try simp only [Act.put, List.setIfInBounds_toArray]); (try dsimp only [List.set_cons_succ, List.set_cons_zero])
  refine htakeG (i := 2) (v := ?_) (some 31) rfl rfl (by kernel_rfl) (by kernel_rfl) (by kernel_rfl) (fun _ _ _ h => h) (Or.inl ⟨by rfl, ?_⟩) (by assumption) ?_; rotate_left; (focus (intro w hSw; (try dsimp only at hSw); go_simp; (try with_reducible rfl))); (try simp only [Act.put, List.setIfInBounds_toArray]); (try dsimp only [List.set_cons_succ, List.set_cons_zero])
  refine htakeG (i := 3) (v := ?_) (some 32) rfl rfl (by kernel_rfl) (by kernel_rfl) (by kernel_rfl) (fun _ _ _ h => h) (Or.inl ⟨by rfl, ?_⟩) (by assumption) ?_; rotate_left; (focus (intro w hSw; (try dsimp only at hSw); go_simp; (try with_reducible rfl))); (try simp only [Act.put, List.setIfInBounds_toArray]); (try dsimp only [List.set_cons_succ, List.set_cons_zero])
  refine htakeG (i := 4) (v := ?_) (some 33) rfl rfl (by kernel_rfl) (by kernel_rfl) (by kernel_rfl) (fun _ _ _ h => h) (Or.inl ⟨by rfl, ?_⟩) (by assumption) ?_; rotate_left; (focus (intro w hSw; (try dsimp only at hSw); go_simp; (try with_reducible rfl))); (try simp only [Act.put, List.setIfInBounds_toArray]); (try dsimp only [List.set_cons_succ, List.set_cons_zero])
  refine htakeG (i := 5) (v := ?_) (some 34) rfl rfl (by kernel_rfl) (by kernel_rfl) (by kernel_rfl) (fun _ _ _ h => h) (Or.inl ⟨by rfl, ?_⟩) (by assumption) ?_; rotate_left; (focus (intro w hSw; (try dsimp only at hSw); go_simp; (try with_reducible rfl))); (try simp only [Act.put, List.setIfInBounds_toArray]); (try dsimp only [List.set_cons_succ, List.set_cons_zero])
  refine htakeG (i := 6) (v := ?_) (some 35) rfl rfl (by kernel_rfl) (by kernel_rfl) (by kernel_rfl) (fun _ _ _ h => h) (Or.inl ⟨by rfl, ?_⟩) (by assumption) ?_; rotate_left; (focus (intro w hSw; (try dsimp only at hSw); go_simp; (try with_reducible rfl))); (try simp only [Act.put, List.setIfInBounds_toArray]); (try dsimp only [List.set_cons_succ, List.set_cons_zero])
  refine htakeG (i := 7) (v := ?_) (some 36) rfl rfl (by kernel_rfl) (by kernel_rfl) (by kernel_rfl) (fun _ _ _ h => h) (Or.inl ⟨by rfl, ?_⟩) (by assumption) ?_; rotate_left; (focus (intro w hSw; (try dsimp only at hSw); go_simp; (try with_reducible rfl))); (try simp only [Act.put, List.setIfInBounds_toArray]); (try dsimp only [List.set_cons_succ, List.set_cons_zero])
  refine htakeG (i := 8) (v := ?_) (some 37) rfl rfl (by kernel_rfl) (by kernel_rfl) (by kernel_rfl) (fun _ _ _ h => h) (Or.inl ⟨by rfl, ?_⟩) (by assumption) ?_; rotate_left; (focus (intro w hSw; (try dsimp only at hSw); go_simp; (try with_reducible rfl))); (try simp only [Act.put, List.setIfInBounds_toArray]); (try dsimp only [List.set_cons_succ, List.set_cons_zero])
  refine htakeG (i := 9) (v := ?_) (some 38) rfl rfl (by kernel_rfl) (by kernel_rfl) (by kernel_rfl) (fun _ _ _ h => h) (Or.inl ⟨by rfl, ?_⟩) (by assumption) ?_; rotate_left; (focus (intro w hSw; (try dsimp only at hSw); go_simp; (try with_reducible rfl))); (try simp only [Act.put, List.setIfInBounds_toArray]); (try dsimp only [List.set_cons_succ, List.set_cons_zero])
  refine htakeG (i := 11) (v := ?_) (some 40) rfl rfl (by kernel_rfl) (by kernel_rfl) (by kernel_rfl) (fun _ _ _ h => h) (Or.inl ⟨by rfl, ?_⟩) (by assumption) ?_; rotate_left; (focus (intro w hSw; (try dsimp only at hSw); go_simp; (try with_reducible rfl))); (try simp only [Act.put, List.setIfInBounds_toArray]); (try dsimp only [List.set_cons_succ, List.set_cons_zero])
  refine wpAnyH_ready (rs := [10]) (by kernel_rfl) (by simp) ?_
  refine AllReadyH.cons rfl (fun K hK => ?_) AllReadyH.nil
  go_simp
  refine (c3.out _).mono ?_; rintro e w3 ⟨rfl, y_w3⟩; have x_w3 := Ext.trans (show Ext W _ by assumption) y_w3; clear y_w3
  (try go_wp2_with fail)
  refine hK.out _ _ ?_ (fun hHeld => ?_)
  · (try dsimp only); (repeat' (with_reducible first | assumption | refine Ext.drew ?_ | refine Ext.drewN ?_ _ | exact Ext.refl _))
  clear hK K
  (try simp only [Act.put, List.setIfInBounds_toArray]); (try dsimp only [List.set_cons_succ, List.set_cons_zero])
  refine wpAnyH_ready (rs := [12]) (by kernel_rfl) (by simp) ?_
  refine AllReadyH.cons rfl (fun K hK => ?_) AllReadyH.nil
  go_simp
  refine (c4.out _).mono ?_; rintro e w4 ⟨rfl, y_w4⟩; have x_w4 := Ext.trans (show Ext W _ by assumption) y_w4; clear y_w4
  (try go_wp2_with fail)
  refine hK.out _ _ ?_ (fun hHeld => ?_)
  · (try dsimp only); (repeat' (with_reducible first | assumption | refine Ext.drew ?_ | refine Ext.drewN ?_ _ | exact Ext.refl _))
  clear hK K
  (try simp only [Act.put, List.setIfInBounds_toArray]); (try dsimp only [List.set_cons_succ, List.set_cons_zero])
  refine htakeG (i := 13) (v := ?_) (some 42) rfl rfl (by kernel_rfl) (by kernel_rfl) (by kernel_rfl) (fun _ _ _ h => h) (Or.inl ⟨by rfl, ?_⟩) (by assumption) ?_; rotate_left; (focus (intro w hSw; (try dsimp only at hSw); go_simp; (try with_reducible rfl))); (try simp only [Act.put, List.setIfInBounds_toArray]); (try dsimp only [List.set_cons_succ, List.set_cons_zero])
  refine htakeG (i := 14) (v := ?_) (some 43) rfl rfl (by kernel_rfl) (by kernel_rfl) (by kernel_rfl) (fun _ _ _ h => h) (Or.inl ⟨by rfl, ?_⟩) (by assumption) ?_; rotate_left; (focus (intro w hSw; (try dsimp only at hSw); go_simp; (try with_reducible rfl))); (try simp only [Act.put, List.setIfInBounds_toArray]); (try dsimp only [List.set_cons_succ, List.set_cons_zero])
  refine htakeG (i := 15) (v := ?_) (some 44) rfl rfl (by kernel_rfl) (by kernel_rfl) (by kernel_rfl) (fun _ _ _ h => h) (Or.inl ⟨by rfl, ?_⟩) (by assumption) ?_; rotate_left; (focus (intro w hSw; (try dsimp only at hSw); go_simp; (try with_reducible rfl))); (try simp only [Act.put, List.setIfInBounds_toArray]); (try dsimp only [List.set_cons_succ, List.set_cons_zero])
  refine wpAnyH_ready (rs := [16]) (by kernel_rfl) (by simp) ?_
  refine AllReadyH.cons rfl (fun K hK => ?_) AllReadyH.nil
  go_simp
  refine (ka.out _).mono ?_; rintro e w5 ⟨rfl, y_w5⟩; have x_w5 := Ext.trans (show Ext W _ by assumption) y_w5; clear y_w5
  (try go_wp2_with fail)
  refine hK.out _ _ ?_ (fun hHeld => ?_)
  · (try dsimp only); (repeat' (with_reducible first | assumption | refine Ext.drew ?_ | refine Ext.drewN ?_ _ | exact Ext.refl _))
  clear hK K
  (try simp only [Act.put, List.setIfInBounds_toArray]); (try dsimp only [List.set_cons_succ, List.set_cons_zero])
  refine htakeG (i := 17) (v := ?_) (some 46) rfl rfl (by kernel_rfl) (by kernel_rfl) (by kernel_rfl) (fun _ _ _ h => h) (Or.inl ⟨by rfl, ?_⟩) (by assumption) ?_; rotate_left; (focus (intro w hSw; (try dsimp only at hSw); go_simp; (try with_reducible rfl))); (try simp only [Act.put, List.setIfInBounds_toArray]); (try dsimp only [List.set_cons_succ, List.set_cons_zero])
  refine htakeG (i := 18) (v := ?_) (some 8) rfl rfl (by kernel_rfl) (by kernel_rfl) (by kernel_rfl) (fun _ _ _ h => h) (Or.inl ⟨by rfl, ?_⟩) (by assumption) ?_; rotate_left; (focus (intro w hSw; (try dsimp only at hSw); go_simp; (try with_reducible rfl))); (try simp only [Act.put, List.setIfInBounds_toArray]); (try dsimp only [List.set_cons_succ, List.set_cons_zero])
  refine wpAnyH_done (by kernel_rfl) ?_ _
  go_wp2_with fail
  go_ret
  exact ⟨rfl, X_W.out.trans (by assumption)⟩
end Go.Proofs.Ytnmjikaojoaaaaa

