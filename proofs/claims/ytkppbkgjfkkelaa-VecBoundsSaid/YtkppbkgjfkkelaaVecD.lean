/-
  Equality of vectors; contracts of both Collinear.
-/
import Derived.Test.YtkppbkgjfkkelaaVecC
namespace Go.Proofs.Ytkppbkgjfkkelaa
open Go.RowKit
theorem fieldsV : (Try.prog.fieldsOf 23).toList = [⟨"X", 3, 0, false, "", "", 0⟩, ⟨"Y", 3, 1, false, "", "", 8⟩, ⟨"Z", 3, 2, false, "", "", 16⟩] := by kernel_rfl
theorem eql_v (x y z u v t : Int) (w : World) : (binOp .eql 23 (.agg #[.int .i64 x, .int .i64 y, .int .i64 z]) (.agg #[.int .i64 u, .int .i64 v, .int .i64 t])).run Try.prog w = .ok (.bool (decide (x = u ∧ y = v ∧ z = t))) w := by
  have ht : Try.prog.underlying 23 = some (.struct (Try.prog.fieldsOf 23)) := by kernel_rfl
  have hp : Try.prog.stoodInHeld 23 = false := by kernel_rfl
  rw [run_eql_struct, run_equalIn_agg w 9999 23 _ _ ht hp, fieldsV]
  simp [Op.eqFields, go_sem]
  by_cases h1 : x = u <;> by_cases h2 : y = v <;> by_cases h3 : z = t <;> simp [h1, h2, h3]
theorem neq_v (x y z u v t : Int) (w : World) : (binOp .neq 23 (.agg #[.int .i64 x, .int .i64 y, .int .i64 z]) (.agg #[.int .i64 u, .int .i64 v, .int .i64 t])).run Try.prog w = .ok (.bool (!decide (x = u ∧ y = v ∧ z = t))) w := by
  have ht : Try.prog.underlying 23 = some (.struct (Try.prog.fieldsOf 23)) := by kernel_rfl
  have hp : Try.prog.stoodInHeld 23 = false := by kernel_rfl
  rw [run_neq_struct, run_equalIn_agg w 9999 23 _ _ ht hp, fieldsV]
  simp [Op.eqFields, go_sem]
  by_cases h1 : x = u <;> by_cases h2 : y = v <;> by_cases h3 : z = t <;> simp [h1, h2, h3]
theorem lineIs_no {x y z u v t a b c : Int} {r : Bool} (h : LineIs x y z u v t a b c r) (hn : ¬ (In3 65536 x y z ∧ In3 65536 u v t ∧ In3 65536 a b c)) : r = false := by
  rw [show r = _ from h]; exact decide_eq_false fun e => hn ⟨e.1, e.2.1, e.2.2.1⟩
theorem lineIs_yes {x y z u v t a b c : Int} {r : Bool} (h : LineIs x y z u v t a b c r) (i1 : In3 65536 x y z) (i2 : In3 65536 u v t) (i3 : In3 65536 a b c) :
    decide ((v - y) * (c - z) - (t - z) * (b - y) = 0 ∧ (t - z) * (a - x) - (u - x) * (c - z) = 0 ∧ (u - x) * (b - y) - (v - y) * (a - x) = 0) = r := by
  rw [show r = _ from h, decide_eq_decide]
  exact ⟨fun e => ⟨i1, i2, i3, e⟩, fun e => e.2.2.2⟩
set_option maxHeartbeats 2000000 in
theorem additiveref04_Collinear (x y z u v t a b c : Int) (r : Bool) (h : LineIs x y z u v t a b c r) (w : World) :
    Calls Try.prog 26 #[.agg #[.int .i64 x, .int .i64 y, .int .i64 z], .agg #[.int .i64 u, .int .i64 v, .int .i64 t], .agg #[.int .i64 a, .int .i64 b, .int .i64 c]] w fun e w' => e = .returned (.bool r) ∧ Ext w w' := by
  by_cases i1 : In3 65536 x y z
  case neg => rw [lineIs_no h fun e => i1 e.1]; exact additiveref04_Collinear_no1 x y z u v t a b c i1 w
  by_cases i2 : In3 65536 u v t
  case neg => rw [lineIs_no h fun e => i2 e.2.1]; exact additiveref04_Collinear_no2 x y z u v t a b c i1 i2 w
  by_cases i3 : In3 65536 a b c
  case neg => rw [lineIs_no h fun e => i3 e.2.2]; exact additiveref04_Collinear_no3 x y z u v t a b c i1 i2 i3 w
  have hr := lineIs_yes h i1 i2 i3
  obtain ⟨s1, s2, s3⟩ := line_parts i1 i2 i3
  generalize (v - y) * (c - z) - (t - z) * (b - y) = p at *
  generalize (t - z) * (a - x) - (u - x) * (c - z) = q at *
  generalize (u - x) * (b - y) - (v - y) * (a - x) = o at *
  have d1 := Lib.hid fun w => additiveref04_Valid x y z true (by rw [decide_eq_true i1]) w
  have d2 := Lib.hid fun w => additiveref04_Valid u v t true (by rw [decide_eq_true i2]) w
  have d3 := Lib.hid fun w => additiveref04_Valid a b c true (by rw [decide_eq_true i3]) w
  have c1 := fun w => additiveref04_Sub u v t x y z _ _ _ s1 w
  have c2 := fun w => additiveref04_Sub a b c x y z _ _ _ s2 w
  have c3 := fun w => additiveref04_Cross _ _ _ _ _ _ p q o s3 w
  have eq := fun w => eql_v p q o 0 0 0 w
  rw [hr] at eq
  generalize u - x = e1 at *
  generalize v - y = e2 at *
  generalize t - z = e3 at *
  generalize a - x = e4 at *
  generalize b - y = e5 at *
  generalize c - z = e6 at *
  have C1 := Lib.hid c1; have C2 := Lib.hid c2; have C3 := Lib.hid c3
  obtain ⟨W, hW, hx, hS⟩ := held9_new w x y z u v t a b c 23
  have HX := Lib.hid hx
  clear h i1 i2 i3 s1 s2 s3 hr c1 c2 c3
  go_enter Try.func26, Try.ntmps26
  go_wp2_with fail
  clear hW hx
  refine (d1.out _).mono ?_; rintro e v1 ⟨rfl, g1⟩
  have K1 := held9 g1 hS
  have Y1 := Lib.hid (HX.out.trans g1)
  clear g1 hS
  go_wp2_with fail
  refine (d2.out _).mono ?_; rintro e v2 ⟨rfl, g2⟩
  have K2 := held9 g2 K1
  have Y2 := Lib.hid (Y1.out.trans g2)
  clear g2 K1
  go_wp2_with fail
  refine (d3.out _).mono ?_; rintro e v3 ⟨rfl, g3⟩
  have K3 := held9 g3 K2
  have Y3 := Lib.hid (Y2.out.trans g3)
  clear g3 K2
  go_wp2_with fail
  go_region_held3 (fun w' => w'.cell? ⟨w.heap.size, 0, none⟩ = some (.int .i64 x) ∧ w'.cell? ⟨w.heap.size, 1, none⟩ = some (.int .i64 y) ∧ w'.cell? ⟨w.heap.size, 2, none⟩ = some (.int .i64 z) ∧ w'.cell? ⟨w.heap.size + 1, 0, none⟩ = some (.int .i64 u) ∧ w'.cell? ⟨w.heap.size + 1, 1, none⟩ = some (.int .i64 v) ∧ w'.cell? ⟨w.heap.size + 1, 2, none⟩ = some (.int .i64 t) ∧ w'.cell? ⟨w.heap.size + 1 + 1, 0, none⟩ = some (.int .i64 a) ∧ w'.cell? ⟨w.heap.size + 1 + 1, 1, none⟩ = some (.int .i64 b) ∧ w'.cell? ⟨w.heap.size + 1 + 1, 2, none⟩ = some (.int .i64 c)) (first | assumption | go_keep)
    (first
      | (go_at_call_of 13 (Value.agg #[.int .i64 u, .int .i64 v, .int .i64 t]); refine (C1.out _).mono ?_; rintro e w1 ⟨rfl, h1⟩; have L1 := held9 h1 (by assumption))
      | (go_at_call_of 13 (Value.agg #[.int .i64 a, .int .i64 b, .int .i64 c]); refine (C2.out _).mono ?_; rintro e w2 ⟨rfl, h2⟩; have L2 := held9 h2 (by assumption))
      | (go_at_call 14; refine (C3.out _).mono ?_; rintro e w3 ⟨rfl, h3⟩; have L3 := held9 h3 (by assumption)))
  all_goals
    go_wp2_with fail
    go_ret
    exact ⟨rfl, ((Y3.out.drew.trans h1).trans h2).trans h3⟩
end Go.Proofs.Ytkppbkgjfkkelaa

