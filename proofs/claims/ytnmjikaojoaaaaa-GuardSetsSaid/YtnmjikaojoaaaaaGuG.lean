/-
  The walks of the laws GuardSets and GuardStays: each answers true.
-/
import Derived.Test.YtnmjikaojoaaaaaGuF
namespace Go.Proofs.Ytnmjikaojoaaaaa
open Go.RowKit
theorem htakeH {P : Program} {ops : Array Oper} {Q : Exit → Act → World → Prop} {md : Region.Mode} {S : World → Prop} {i : Nat} {oi : Oper} {v : Value} {fuel : Nat} {listed : Array Bool} {a : Act} {w : World} (d : Option Tmp) (hi : ops[i]? = some oi) (hd : oi.dst = d)
    (hs : Region.noSelect ops = true) (hf : Region.free md ops listed i = true) (hr : (Region.ready md ops listed).contains i = true)
    (hQ : ∀ c a w, Q (.panic c) (a.put d v) w → Q (.panic c) a w) (hy : YieldsIf P ops S oi v a) (hS : S w)
    (h : wpAnyH P md ops Q S fuel (listed.setIfInBounds i true) (a.put d v) w) : wpAnyH P md ops Q S (fuel + 1) listed a w := by
  subst hd
  exact wpAnyH_take hi hs hf hr hQ hy hS h
/-- What Reset answers. -/
def grs (lo hi wa ri ba bs cn il qu fa : Int) (dr : Bool) (r : Int) : Int × Int × Int × Int × Int × Int × Int × Int × Int × Int × Bool × Int :=
  if GVal lo hi wa ri ba bs cn il qu fa then (if fa = 0 then (0, 0, 0, 0, 0, 0, 0, 0, 0, 0, false, 14) else if r < lo ∨ hi < r then (0, 0, 0, 0, 0, 0, 0, 0, 0, 0, false, 16) else (lo, hi, wa, ri, ba, r, 0, il, 0, 0, dr, 0)) else (0, 0, 0, 0, 0, 0, 0, 0, 0, 0, false, 1)
theorem guard_GReset (lo hi wa ri ba bs cn il qu fa r l0 l1 l2 l3 l4 l5 l6 l7 l8 l9 k : Int) (dr dz : Bool) (h : grs lo hi wa ri ba bs cn il qu fa dr r = (l0, l1, l2, l3, l4, l5, l6, l7, l8, l9, dz, k)) (w : World) :
    Calls Try.prog 30 #[.agg #[.int .i64 lo, .int .i64 hi, .int .i64 wa, .int .i64 ri, .int .i64 ba, .int .i64 bs, .int .i64 cn, .int .i64 il, .int .i64 qu, .int .i64 fa, .bool dr], .int .i64 r] w fun e w' => e = .returned (.tuple #[.agg #[.int .i64 l0, .int .i64 l1, .int .i64 l2, .int .i64 l3, .int .i64 l4, .int .i64 l5, .int .i64 l6, .int .i64 l7, .int .i64 l8, .int .i64 l9, .bool dz], .int .i64 k]) ∧ Ext w w' := by
  unfold grs at h
  by_cases hv : GVal lo hi wa ri ba bs cn il qu fa
  case neg => rw [if_neg hv] at h; cases h; exact guard_Reset_arg lo hi wa ri ba bs cn il qu fa r dr hv w
  rw [if_pos hv] at h
  by_cases hf : fa = 0
  case pos => rw [if_pos hf] at h; cases h; exact guard_Reset_state lo hi wa ri ba bs cn il qu fa r dr hv hf w
  rw [if_neg hf] at h
  by_cases r0 : r < lo
  case pos => rw [if_pos (.inl r0)] at h; cases h; exact guard_Reset_cold lo hi wa ri ba bs cn il qu fa r dr hv hf r0 w
  by_cases r1 : hi < r
  case pos => rw [if_pos (.inr r1)] at h; cases h; exact guard_Reset_hot lo hi wa ri ba bs cn il qu fa r dr hv hf (by omega) r1 w
  rw [if_neg (fun x => x.elim r0 r1)] at h
  cases h
  exact guard_Reset_ok lo hi wa ri ba bs cn il qu fa r dr hv hf (by omega) (by omega) w
theorem guard_GTouch (lo hi wa ri ba bs cn il qu fa : Int) (dr : Bool) (v : Int) (h : v = if GVal lo hi wa ri ba bs cn il qu fa then 0 else qu) (w : World) :
    Calls Try.prog 32 #[.agg #[.int .i64 lo, .int .i64 hi, .int .i64 wa, .int .i64 ri, .int .i64 ba, .int .i64 bs, .int .i64 cn, .int .i64 il, .int .i64 qu, .int .i64 fa, .bool dr]] w fun e w' => e = .returned (.agg #[.int .i64 lo, .int .i64 hi, .int .i64 wa, .int .i64 ri, .int .i64 ba, .int .i64 bs, .int .i64 cn, .int .i64 il, .int .i64 v, .int .i64 fa, .bool dr]) ∧ Ext w w' := by
  by_cases hv : GVal lo hi wa ri ba bs cn il qu fa
  · rw [if_pos hv] at h; rw [h]; exact guard_Touch_ok lo hi wa ri ba bs cn il qu fa dr  hv w
  · rw [if_neg hv] at h; rw [h]; exact guard_Touch_no lo hi wa ri ba bs cn il qu fa dr  hv w
theorem guard_GDoor (lo hi wa ri ba bs cn il qu fa : Int) (dr : Bool) (x : Bool) (v : Bool) (h : v = if GVal lo hi wa ri ba bs cn il qu fa then x else dr) (w : World) :
    Calls Try.prog 34 #[.agg #[.int .i64 lo, .int .i64 hi, .int .i64 wa, .int .i64 ri, .int .i64 ba, .int .i64 bs, .int .i64 cn, .int .i64 il, .int .i64 qu, .int .i64 fa, .bool dr], .bool x] w fun e w' => e = .returned (.agg #[.int .i64 lo, .int .i64 hi, .int .i64 wa, .int .i64 ri, .int .i64 ba, .int .i64 bs, .int .i64 cn, .int .i64 il, .int .i64 qu, .int .i64 fa, .bool v]) ∧ Ext w w' := by
  by_cases hv : GVal lo hi wa ri ba bs cn il qu fa
  · rw [if_pos hv] at h; rw [h]; exact guard_Door_ok lo hi wa ri ba bs cn il qu fa dr x hv w
  · rw [if_neg hv] at h; rw [h]; exact guard_Door_no lo hi wa ri ba bs cn il qu fa dr x hv w
theorem guard_GStop (lo hi wa ri ba bs cn il qu fa : Int) (dr : Bool) (v : Int) (h : v = if GVal lo hi wa ri ba bs cn il qu fa then 4 else fa) (w : World) :
    Calls Try.prog 36 #[.agg #[.int .i64 lo, .int .i64 hi, .int .i64 wa, .int .i64 ri, .int .i64 ba, .int .i64 bs, .int .i64 cn, .int .i64 il, .int .i64 qu, .int .i64 fa, .bool dr]] w fun e w' => e = .returned (.agg #[.int .i64 lo, .int .i64 hi, .int .i64 wa, .int .i64 ri, .int .i64 ba, .int .i64 bs, .int .i64 cn, .int .i64 il, .int .i64 qu, .int .i64 v, .bool dr]) ∧ Ext w w' := by
  by_cases hv : GVal lo hi wa ri ba bs cn il qu fa
  · rw [if_pos hv] at h; rw [h]; exact guard_Stop_ok lo hi wa ri ba bs cn il qu fa dr  hv w
  · rw [if_neg hv] at h; rw [h]; exact guard_Stop_no lo hi wa ri ba bs cn il qu fa dr  hv w
theorem additiveref50_GReset (lo hi wa ri ba bs cn il qu fa r l0 l1 l2 l3 l4 l5 l6 l7 l8 l9 k : Int) (dr dz : Bool) (h : grs lo hi wa ri ba bs cn il qu fa dr r = (l0, l1, l2, l3, l4, l5, l6, l7, l8, l9, dz, k)) (w : World) :
    Calls Try.prog 31 #[.agg #[.int .i64 lo, .int .i64 hi, .int .i64 wa, .int .i64 ri, .int .i64 ba, .int .i64 bs, .int .i64 cn, .int .i64 il, .int .i64 qu, .int .i64 fa, .bool dr], .int .i64 r] w fun e w' => e = .returned (.tuple #[.agg #[.int .i64 l0, .int .i64 l1, .int .i64 l2, .int .i64 l3, .int .i64 l4, .int .i64 l5, .int .i64 l6, .int .i64 l7, .int .i64 l8, .int .i64 l9, .bool dz], .int .i64 k]) ∧ Ext w w' := by
  unfold grs at h
  by_cases hv : GVal lo hi wa ri ba bs cn il qu fa
  case neg => rw [if_neg hv] at h; cases h; exact additiveref50_Reset_arg lo hi wa ri ba bs cn il qu fa r dr hv w
  rw [if_pos hv] at h
  by_cases hf : fa = 0
  case pos => rw [if_pos hf] at h; cases h; exact additiveref50_Reset_state lo hi wa ri ba bs cn il qu fa r dr hv hf w
  rw [if_neg hf] at h
  by_cases r0 : r < lo
  case pos => rw [if_pos (.inl r0)] at h; cases h; exact additiveref50_Reset_cold lo hi wa ri ba bs cn il qu fa r dr hv hf r0 w
  by_cases r1 : hi < r
  case pos => rw [if_pos (.inr r1)] at h; cases h; exact additiveref50_Reset_hot lo hi wa ri ba bs cn il qu fa r dr hv hf (by omega) r1 w
  rw [if_neg (fun x => x.elim r0 r1)] at h
  cases h
  exact additiveref50_Reset_ok lo hi wa ri ba bs cn il qu fa r dr hv hf (by omega) (by omega) w
theorem additiveref50_GTouch (lo hi wa ri ba bs cn il qu fa : Int) (dr : Bool) (v : Int) (h : v = if GVal lo hi wa ri ba bs cn il qu fa then 0 else qu) (w : World) :
    Calls Try.prog 33 #[.agg #[.int .i64 lo, .int .i64 hi, .int .i64 wa, .int .i64 ri, .int .i64 ba, .int .i64 bs, .int .i64 cn, .int .i64 il, .int .i64 qu, .int .i64 fa, .bool dr]] w fun e w' => e = .returned (.agg #[.int .i64 lo, .int .i64 hi, .int .i64 wa, .int .i64 ri, .int .i64 ba, .int .i64 bs, .int .i64 cn, .int .i64 il, .int .i64 v, .int .i64 fa, .bool dr]) ∧ Ext w w' := by
  by_cases hv : GVal lo hi wa ri ba bs cn il qu fa
  · rw [if_pos hv] at h; rw [h]; exact additiveref50_Touch_ok lo hi wa ri ba bs cn il qu fa dr  hv w
  · rw [if_neg hv] at h; rw [h]; exact additiveref50_Touch_no lo hi wa ri ba bs cn il qu fa dr  hv w
theorem additiveref50_GDoor (lo hi wa ri ba bs cn il qu fa : Int) (dr : Bool) (x : Bool) (v : Bool) (h : v = if GVal lo hi wa ri ba bs cn il qu fa then x else dr) (w : World) :
    Calls Try.prog 35 #[.agg #[.int .i64 lo, .int .i64 hi, .int .i64 wa, .int .i64 ri, .int .i64 ba, .int .i64 bs, .int .i64 cn, .int .i64 il, .int .i64 qu, .int .i64 fa, .bool dr], .bool x] w fun e w' => e = .returned (.agg #[.int .i64 lo, .int .i64 hi, .int .i64 wa, .int .i64 ri, .int .i64 ba, .int .i64 bs, .int .i64 cn, .int .i64 il, .int .i64 qu, .int .i64 fa, .bool v]) ∧ Ext w w' := by
  by_cases hv : GVal lo hi wa ri ba bs cn il qu fa
  · rw [if_pos hv] at h; rw [h]; exact additiveref50_Door_ok lo hi wa ri ba bs cn il qu fa dr x hv w
  · rw [if_neg hv] at h; rw [h]; exact additiveref50_Door_no lo hi wa ri ba bs cn il qu fa dr x hv w
theorem additiveref50_GStop (lo hi wa ri ba bs cn il qu fa : Int) (dr : Bool) (v : Int) (h : v = if GVal lo hi wa ri ba bs cn il qu fa then 4 else fa) (w : World) :
    Calls Try.prog 37 #[.agg #[.int .i64 lo, .int .i64 hi, .int .i64 wa, .int .i64 ri, .int .i64 ba, .int .i64 bs, .int .i64 cn, .int .i64 il, .int .i64 qu, .int .i64 fa, .bool dr]] w fun e w' => e = .returned (.agg #[.int .i64 lo, .int .i64 hi, .int .i64 wa, .int .i64 ri, .int .i64 ba, .int .i64 bs, .int .i64 cn, .int .i64 il, .int .i64 qu, .int .i64 v, .bool dr]) ∧ Ext w w' := by
  by_cases hv : GVal lo hi wa ri ba bs cn il qu fa
  · rw [if_pos hv] at h; rw [h]; exact additiveref50_Stop_ok lo hi wa ri ba bs cn il qu fa dr  hv w
  · rw [if_neg hv] at h; rw [h]; exact additiveref50_Stop_no lo hi wa ri ba bs cn il qu fa dr  hv w
set_option maxHeartbeats 8000000 in
theorem law_GuardSets (lo hi wa ri ba bs cn il qu fa : Int) (dr : Bool) (r : Int) (x : Bool) (w : World) : Calls Try.prog 9 #[.agg #[.int .i64 lo, .int .i64 hi, .int .i64 wa, .int .i64 ri, .int .i64 ba, .int .i64 bs, .int .i64 cn, .int .i64 il, .int .i64 qu, .int .i64 fa, .bool dr], .int .i64 r, .bool x] w fun e w' => e = .returned (.bool true) ∧ Ext w w' := by
  have ka := Lib.hid law_awake
  obtain ⟨l0, l1, l2, l3, l4, l5, l6, l7, l8, l9, dz, k, h⟩ : ∃ l0 l1 l2 l3 l4 l5 l6 l7 l8 l9 dz k, grs lo hi wa ri ba bs cn il qu fa dr r = (l0, l1, l2, l3, l4, l5, l6, l7, l8, l9, dz, k) := ⟨_, _, _, _, _, _, _, _, _, _, _, _, rfl⟩
  obtain ⟨q1, h1⟩ : ∃ v, v = if GVal lo hi wa ri ba bs cn il qu fa then 0 else qu := ⟨_, rfl⟩
  obtain ⟨q2, h2⟩ : ∃ v, v = if GVal lo hi wa ri ba bs cn il qu fa then x else dr := ⟨_, rfl⟩
  obtain ⟨q3, h3⟩ : ∃ v, v = if GVal lo hi wa ri ba bs cn il qu fa then 4 else fa := ⟨_, rfl⟩
  have a0 := Lib.hid fun w => guard_GReset lo hi wa ri ba bs cn il qu fa r l0 l1 l2 l3 l4 l5 l6 l7 l8 l9 k dr dz h w
  have b0 := Lib.hid fun w => guard_GTouch lo hi wa ri ba bs cn il qu fa dr q1 h1 w
  have c0 := Lib.hid fun w => guard_GDoor lo hi wa ri ba bs cn il qu fa dr x q2 h2 w
  have d0 := Lib.hid fun w => guard_GStop lo hi wa ri ba bs cn il qu fa dr q3 h3 w
  have a1 := Lib.hid fun w => additiveref50_GReset lo hi wa ri ba bs cn il qu fa r l0 l1 l2 l3 l4 l5 l6 l7 l8 l9 k dr dz h w
  have b1 := Lib.hid fun w => additiveref50_GTouch lo hi wa ri ba bs cn il qu fa dr q1 h1 w
  have c1 := Lib.hid fun w => additiveref50_GDoor lo hi wa ri ba bs cn il qu fa dr x q2 h2 w
  have d1 := Lib.hid fun w => additiveref50_GStop lo hi wa ri ba bs cn il qu fa dr q3 h3 w
  have e1 := fun w => eql_gsame l0 l1 l2 l3 l4 l5 l6 l7 l8 l9 dz w
  have e2 := beq_t (rfl : k = k)
  have e3 := fun w => eql_gsame lo hi wa ri ba bs cn il q1 fa dr w
  have e4 := fun w => eql_gsame lo hi wa ri ba bs cn il qu fa q2 w
  have e5 := fun w => eql_gsame lo hi wa ri ba bs cn il qu q3 dr w
  clear h h1 h2 h3
  go_enter Try.func9, Try.ntmps9
  go_wp2_with fail
  refine (a0.out _).mono ?_; rintro e w1 ⟨rfl, x_w1⟩
  obtain ⟨k_w1, f_w1⟩ := bcell x_w1
  have s_w1 := x_w1.size; (try simp at s_w1)
  have z0_w1 : w.heap.size < w1.heap.size := by omega
  have q0_w1 : w1.cell? ⟨w.heap.size, 0, none⟩ = some (.int .i64 lo) := by rw [k_w1 _ _ (by first | omega | (simp; done) | (simp; omega))]; go_simp
  have q1_w1 : w1.cell? ⟨w.heap.size, 1, none⟩ = some (.int .i64 hi) := by rw [k_w1 _ _ (by first | omega | (simp; done) | (simp; omega))]; go_simp
  have q2_w1 : w1.cell? ⟨w.heap.size, 2, none⟩ = some (.int .i64 wa) := by rw [k_w1 _ _ (by first | omega | (simp; done) | (simp; omega))]; go_simp
  have q3_w1 : w1.cell? ⟨w.heap.size, 3, none⟩ = some (.int .i64 ri) := by rw [k_w1 _ _ (by first | omega | (simp; done) | (simp; omega))]; go_simp
  have q4_w1 : w1.cell? ⟨w.heap.size, 4, none⟩ = some (.int .i64 ba) := by rw [k_w1 _ _ (by first | omega | (simp; done) | (simp; omega))]; go_simp
  have q5_w1 : w1.cell? ⟨w.heap.size, 5, none⟩ = some (.int .i64 bs) := by rw [k_w1 _ _ (by first | omega | (simp; done) | (simp; omega))]; go_simp
  have q6_w1 : w1.cell? ⟨w.heap.size, 6, none⟩ = some (.int .i64 cn) := by rw [k_w1 _ _ (by first | omega | (simp; done) | (simp; omega))]; go_simp
  have q7_w1 : w1.cell? ⟨w.heap.size, 7, none⟩ = some (.int .i64 il) := by rw [k_w1 _ _ (by first | omega | (simp; done) | (simp; omega))]; go_simp
  have q8_w1 : w1.cell? ⟨w.heap.size, 8, none⟩ = some (.int .i64 qu) := by rw [k_w1 _ _ (by first | omega | (simp; done) | (simp; omega))]; go_simp
  have q9_w1 : w1.cell? ⟨w.heap.size, 9, none⟩ = some (.int .i64 fa) := by rw [k_w1 _ _ (by first | omega | (simp; done) | (simp; omega))]; go_simp
  have q10_w1 : w1.cell? ⟨w.heap.size, 10, none⟩ = some (.bool dr) := by rw [k_w1 _ _ (by first | omega | (simp; done) | (simp; omega))]; go_simp
  have X_w1 := Lib.hid (show Ext w w1 from Ext.trans (by (repeat' (with_reducible first | refine Ext.drew ?_ | refine Ext.drewN ?_ _ | refine Ext.alloc ?_ _ | exact Ext.refl _ | fail | (refine Ext.setCell ?_ ?_ _; rotate_left; (focus ((try simp); try omega)))))) x_w1)
  clear x_w1 s_w1
  go_wp2_with fail
  refine (a1.out _).mono ?_; rintro e w2 ⟨rfl, x_w2⟩
  obtain ⟨k_w2, f_w2⟩ := bcell x_w2
  have s_w2 := x_w2.size; (try simp at s_w2)
  have z0_w2 : w.heap.size < w2.heap.size := by omega
  have z1_w2 : w1.heap.size < w2.heap.size := by omega
  have q0_w2 : w2.cell? ⟨w.heap.size, 0, none⟩ = some (.int .i64 lo) := by rw [k_w2 _ _ (by first | omega | (simp; done) | (simp; omega))]; go_simp
  have q1_w2 : w2.cell? ⟨w.heap.size, 1, none⟩ = some (.int .i64 hi) := by rw [k_w2 _ _ (by first | omega | (simp; done) | (simp; omega))]; go_simp
  have q2_w2 : w2.cell? ⟨w.heap.size, 2, none⟩ = some (.int .i64 wa) := by rw [k_w2 _ _ (by first | omega | (simp; done) | (simp; omega))]; go_simp
  have q3_w2 : w2.cell? ⟨w.heap.size, 3, none⟩ = some (.int .i64 ri) := by rw [k_w2 _ _ (by first | omega | (simp; done) | (simp; omega))]; go_simp
  have q4_w2 : w2.cell? ⟨w.heap.size, 4, none⟩ = some (.int .i64 ba) := by rw [k_w2 _ _ (by first | omega | (simp; done) | (simp; omega))]; go_simp
  have q5_w2 : w2.cell? ⟨w.heap.size, 5, none⟩ = some (.int .i64 bs) := by rw [k_w2 _ _ (by first | omega | (simp; done) | (simp; omega))]; go_simp
  have q6_w2 : w2.cell? ⟨w.heap.size, 6, none⟩ = some (.int .i64 cn) := by rw [k_w2 _ _ (by first | omega | (simp; done) | (simp; omega))]; go_simp
  have q7_w2 : w2.cell? ⟨w.heap.size, 7, none⟩ = some (.int .i64 il) := by rw [k_w2 _ _ (by first | omega | (simp; done) | (simp; omega))]; go_simp
  have q8_w2 : w2.cell? ⟨w.heap.size, 8, none⟩ = some (.int .i64 qu) := by rw [k_w2 _ _ (by first | omega | (simp; done) | (simp; omega))]; go_simp
  have q9_w2 : w2.cell? ⟨w.heap.size, 9, none⟩ = some (.int .i64 fa) := by rw [k_w2 _ _ (by first | omega | (simp; done) | (simp; omega))]; go_simp
  have q10_w2 : w2.cell? ⟨w.heap.size, 10, none⟩ = some (.bool dr) := by rw [k_w2 _ _ (by first | omega | (simp; done) | (simp; omega))]; go_simp
  have q11_w2 : w2.cell? ⟨w1.heap.size, 0, none⟩ = some (.int .i64 l0) := by rw [k_w2 _ _ (by first | omega | (simp; done) | (simp; omega))]; go_simp
  have q12_w2 : w2.cell? ⟨w1.heap.size, 1, none⟩ = some (.int .i64 l1) := by rw [k_w2 _ _ (by first | omega | (simp; done) | (simp; omega))]; go_simp
  have q13_w2 : w2.cell? ⟨w1.heap.size, 2, none⟩ = some (.int .i64 l2) := by rw [k_w2 _ _ (by first | omega | (simp; done) | (simp; omega))]; go_simp
  have q14_w2 : w2.cell? ⟨w1.heap.size, 3, none⟩ = some (.int .i64 l3) := by rw [k_w2 _ _ (by first | omega | (simp; done) | (simp; omega))]; go_simp
  have q15_w2 : w2.cell? ⟨w1.heap.size, 4, none⟩ = some (.int .i64 l4) := by rw [k_w2 _ _ (by first | omega | (simp; done) | (simp; omega))]; go_simp
  have q16_w2 : w2.cell? ⟨w1.heap.size, 5, none⟩ = some (.int .i64 l5) := by rw [k_w2 _ _ (by first | omega | (simp; done) | (simp; omega))]; go_simp
  have q17_w2 : w2.cell? ⟨w1.heap.size, 6, none⟩ = some (.int .i64 l6) := by rw [k_w2 _ _ (by first | omega | (simp; done) | (simp; omega))]; go_simp
  have q18_w2 : w2.cell? ⟨w1.heap.size, 7, none⟩ = some (.int .i64 l7) := by rw [k_w2 _ _ (by first | omega | (simp; done) | (simp; omega))]; go_simp
  have q19_w2 : w2.cell? ⟨w1.heap.size, 8, none⟩ = some (.int .i64 l8) := by rw [k_w2 _ _ (by first | omega | (simp; done) | (simp; omega))]; go_simp
  have q20_w2 : w2.cell? ⟨w1.heap.size, 9, none⟩ = some (.int .i64 l9) := by rw [k_w2 _ _ (by first | omega | (simp; done) | (simp; omega))]; go_simp
  have q21_w2 : w2.cell? ⟨w1.heap.size, 10, none⟩ = some (.bool dz) := by rw [k_w2 _ _ (by first | omega | (simp; done) | (simp; omega))]; go_simp
  have X_w2 := Lib.hid (show Ext w w2 from Ext.trans (by (repeat' (with_reducible first | refine Ext.drew ?_ | refine Ext.drewN ?_ _ | refine Ext.alloc ?_ _ | exact Ext.refl _ | exact X_w1.out | (refine Ext.setCell ?_ ?_ _; rotate_left; (focus ((try simp); try omega)))))) x_w2)
  clear x_w2 s_w2
  go_wp2_with fail
  refine wp_world fun W h_W => ?_
  have q0_W : W.cell? ⟨w.heap.size, 0, none⟩ = some (.int .i64 lo) := by rw [h_W]; go_simp
  have u0_W : ∀ w', Ext W w' → w'.cell? ⟨w.heap.size, 0, none⟩ = some (.int .i64 lo) := fun _ h => h.keep q0_W
  have q1_W : W.cell? ⟨w.heap.size, 1, none⟩ = some (.int .i64 hi) := by rw [h_W]; go_simp
  have u1_W : ∀ w', Ext W w' → w'.cell? ⟨w.heap.size, 1, none⟩ = some (.int .i64 hi) := fun _ h => h.keep q1_W
  have q2_W : W.cell? ⟨w.heap.size, 2, none⟩ = some (.int .i64 wa) := by rw [h_W]; go_simp
  have u2_W : ∀ w', Ext W w' → w'.cell? ⟨w.heap.size, 2, none⟩ = some (.int .i64 wa) := fun _ h => h.keep q2_W
  have q3_W : W.cell? ⟨w.heap.size, 3, none⟩ = some (.int .i64 ri) := by rw [h_W]; go_simp
  have u3_W : ∀ w', Ext W w' → w'.cell? ⟨w.heap.size, 3, none⟩ = some (.int .i64 ri) := fun _ h => h.keep q3_W
  have q4_W : W.cell? ⟨w.heap.size, 4, none⟩ = some (.int .i64 ba) := by rw [h_W]; go_simp
  have u4_W : ∀ w', Ext W w' → w'.cell? ⟨w.heap.size, 4, none⟩ = some (.int .i64 ba) := fun _ h => h.keep q4_W
  have q5_W : W.cell? ⟨w.heap.size, 5, none⟩ = some (.int .i64 bs) := by rw [h_W]; go_simp
  have u5_W : ∀ w', Ext W w' → w'.cell? ⟨w.heap.size, 5, none⟩ = some (.int .i64 bs) := fun _ h => h.keep q5_W
  have q6_W : W.cell? ⟨w.heap.size, 6, none⟩ = some (.int .i64 cn) := by rw [h_W]; go_simp
  have u6_W : ∀ w', Ext W w' → w'.cell? ⟨w.heap.size, 6, none⟩ = some (.int .i64 cn) := fun _ h => h.keep q6_W
  have q7_W : W.cell? ⟨w.heap.size, 7, none⟩ = some (.int .i64 il) := by rw [h_W]; go_simp
  have u7_W : ∀ w', Ext W w' → w'.cell? ⟨w.heap.size, 7, none⟩ = some (.int .i64 il) := fun _ h => h.keep q7_W
  have q8_W : W.cell? ⟨w.heap.size, 8, none⟩ = some (.int .i64 qu) := by rw [h_W]; go_simp
  have u8_W : ∀ w', Ext W w' → w'.cell? ⟨w.heap.size, 8, none⟩ = some (.int .i64 qu) := fun _ h => h.keep q8_W
  have q9_W : W.cell? ⟨w.heap.size, 9, none⟩ = some (.int .i64 fa) := by rw [h_W]; go_simp
  have u9_W : ∀ w', Ext W w' → w'.cell? ⟨w.heap.size, 9, none⟩ = some (.int .i64 fa) := fun _ h => h.keep q9_W
  have q10_W : W.cell? ⟨w.heap.size, 10, none⟩ = some (.bool dr) := by rw [h_W]; go_simp
  have u10_W : ∀ w', Ext W w' → w'.cell? ⟨w.heap.size, 10, none⟩ = some (.bool dr) := fun _ h => h.keep q10_W
  have q11_W : W.cell? ⟨w1.heap.size, 0, none⟩ = some (.int .i64 l0) := by rw [h_W]; go_simp
  have u11_W : ∀ w', Ext W w' → w'.cell? ⟨w1.heap.size, 0, none⟩ = some (.int .i64 l0) := fun _ h => h.keep q11_W
  have q12_W : W.cell? ⟨w1.heap.size, 1, none⟩ = some (.int .i64 l1) := by rw [h_W]; go_simp
  have u12_W : ∀ w', Ext W w' → w'.cell? ⟨w1.heap.size, 1, none⟩ = some (.int .i64 l1) := fun _ h => h.keep q12_W
  have q13_W : W.cell? ⟨w1.heap.size, 2, none⟩ = some (.int .i64 l2) := by rw [h_W]; go_simp
  have u13_W : ∀ w', Ext W w' → w'.cell? ⟨w1.heap.size, 2, none⟩ = some (.int .i64 l2) := fun _ h => h.keep q13_W
  have q14_W : W.cell? ⟨w1.heap.size, 3, none⟩ = some (.int .i64 l3) := by rw [h_W]; go_simp
  have u14_W : ∀ w', Ext W w' → w'.cell? ⟨w1.heap.size, 3, none⟩ = some (.int .i64 l3) := fun _ h => h.keep q14_W
  have q15_W : W.cell? ⟨w1.heap.size, 4, none⟩ = some (.int .i64 l4) := by rw [h_W]; go_simp
  have u15_W : ∀ w', Ext W w' → w'.cell? ⟨w1.heap.size, 4, none⟩ = some (.int .i64 l4) := fun _ h => h.keep q15_W
  have q16_W : W.cell? ⟨w1.heap.size, 5, none⟩ = some (.int .i64 l5) := by rw [h_W]; go_simp
  have u16_W : ∀ w', Ext W w' → w'.cell? ⟨w1.heap.size, 5, none⟩ = some (.int .i64 l5) := fun _ h => h.keep q16_W
  have q17_W : W.cell? ⟨w1.heap.size, 6, none⟩ = some (.int .i64 l6) := by rw [h_W]; go_simp
  have u17_W : ∀ w', Ext W w' → w'.cell? ⟨w1.heap.size, 6, none⟩ = some (.int .i64 l6) := fun _ h => h.keep q17_W
  have q18_W : W.cell? ⟨w1.heap.size, 7, none⟩ = some (.int .i64 l7) := by rw [h_W]; go_simp
  have u18_W : ∀ w', Ext W w' → w'.cell? ⟨w1.heap.size, 7, none⟩ = some (.int .i64 l7) := fun _ h => h.keep q18_W
  have q19_W : W.cell? ⟨w1.heap.size, 8, none⟩ = some (.int .i64 l8) := by rw [h_W]; go_simp
  have u19_W : ∀ w', Ext W w' → w'.cell? ⟨w1.heap.size, 8, none⟩ = some (.int .i64 l8) := fun _ h => h.keep q19_W
  have q20_W : W.cell? ⟨w1.heap.size, 9, none⟩ = some (.int .i64 l9) := by rw [h_W]; go_simp
  have u20_W : ∀ w', Ext W w' → w'.cell? ⟨w1.heap.size, 9, none⟩ = some (.int .i64 l9) := fun _ h => h.keep q20_W
  have q21_W : W.cell? ⟨w1.heap.size, 10, none⟩ = some (.bool dz) := by rw [h_W]; go_simp
  have u21_W : ∀ w', Ext W w' → w'.cell? ⟨w1.heap.size, 10, none⟩ = some (.bool dz) := fun _ h => h.keep q21_W
  have q22_W : W.cell? ⟨w2.heap.size, 0, none⟩ = some (.int .i64 l0) := by rw [h_W]; go_simp
  have u22_W : ∀ w', Ext W w' → w'.cell? ⟨w2.heap.size, 0, none⟩ = some (.int .i64 l0) := fun _ h => h.keep q22_W
  have q23_W : W.cell? ⟨w2.heap.size, 1, none⟩ = some (.int .i64 l1) := by rw [h_W]; go_simp
  have u23_W : ∀ w', Ext W w' → w'.cell? ⟨w2.heap.size, 1, none⟩ = some (.int .i64 l1) := fun _ h => h.keep q23_W
  have q24_W : W.cell? ⟨w2.heap.size, 2, none⟩ = some (.int .i64 l2) := by rw [h_W]; go_simp
  have u24_W : ∀ w', Ext W w' → w'.cell? ⟨w2.heap.size, 2, none⟩ = some (.int .i64 l2) := fun _ h => h.keep q24_W
  have q25_W : W.cell? ⟨w2.heap.size, 3, none⟩ = some (.int .i64 l3) := by rw [h_W]; go_simp
  have u25_W : ∀ w', Ext W w' → w'.cell? ⟨w2.heap.size, 3, none⟩ = some (.int .i64 l3) := fun _ h => h.keep q25_W
  have q26_W : W.cell? ⟨w2.heap.size, 4, none⟩ = some (.int .i64 l4) := by rw [h_W]; go_simp
  have u26_W : ∀ w', Ext W w' → w'.cell? ⟨w2.heap.size, 4, none⟩ = some (.int .i64 l4) := fun _ h => h.keep q26_W
  have q27_W : W.cell? ⟨w2.heap.size, 5, none⟩ = some (.int .i64 l5) := by rw [h_W]; go_simp
  have u27_W : ∀ w', Ext W w' → w'.cell? ⟨w2.heap.size, 5, none⟩ = some (.int .i64 l5) := fun _ h => h.keep q27_W
  have q28_W : W.cell? ⟨w2.heap.size, 6, none⟩ = some (.int .i64 l6) := by rw [h_W]; go_simp
  have u28_W : ∀ w', Ext W w' → w'.cell? ⟨w2.heap.size, 6, none⟩ = some (.int .i64 l6) := fun _ h => h.keep q28_W
  have q29_W : W.cell? ⟨w2.heap.size, 7, none⟩ = some (.int .i64 l7) := by rw [h_W]; go_simp
  have u29_W : ∀ w', Ext W w' → w'.cell? ⟨w2.heap.size, 7, none⟩ = some (.int .i64 l7) := fun _ h => h.keep q29_W
  have q30_W : W.cell? ⟨w2.heap.size, 8, none⟩ = some (.int .i64 l8) := by rw [h_W]; go_simp
  have u30_W : ∀ w', Ext W w' → w'.cell? ⟨w2.heap.size, 8, none⟩ = some (.int .i64 l8) := fun _ h => h.keep q30_W
  have q31_W : W.cell? ⟨w2.heap.size, 9, none⟩ = some (.int .i64 l9) := by rw [h_W]; go_simp
  have u31_W : ∀ w', Ext W w' → w'.cell? ⟨w2.heap.size, 9, none⟩ = some (.int .i64 l9) := fun _ h => h.keep q31_W
  have q32_W : W.cell? ⟨w2.heap.size, 10, none⟩ = some (.bool dz) := by rw [h_W]; go_simp
  have u32_W : ∀ w', Ext W w' → w'.cell? ⟨w2.heap.size, 10, none⟩ = some (.bool dz) := fun _ h => h.keep q32_W
  have X_W := Lib.hid (show Ext w W by rw [h_W]; exact (by (repeat' (with_reducible first | refine Ext.drew ?_ | refine Ext.drewN ?_ _ | refine Ext.alloc ?_ _ | exact Ext.refl _ | exact X_w2.out | exact X_w1.out | (refine Ext.setCell ?_ ?_ _; rotate_left; (focus ((try simp); try omega)))))))
  clear h_W
  refine wp_region_held_drew (S := fun w' => Ext W w') (by kernel_rfl) (by (try dsimp only); (repeat' (with_reducible first | assumption | refine Ext.drew ?_ | refine Ext.drewN ?_ _ | exact Ext.refl _))) (fun hHeld => ?_)
  refine htakeH (i := 0) (v := ?_) (some 23) rfl rfl (by kernel_rfl) (by kernel_rfl) (by kernel_rfl) (fun _ _ _ h => h) (Or.inl ⟨by rfl, ?_⟩) (by assumption) ?_; rotate_left; (focus (intro w hSw; (try dsimp only at hSw); go_simp; (try with_reducible rfl))); (try simp only [Act.put, List.setIfInBounds_toArray]); (try dsimp only [List.set_cons_succ, List.set_cons_zero])
  refine htakeH (i := 1) (v := ?_) (some 24) rfl rfl (by kernel_rfl) (by kernel_rfl) (by kernel_rfl) (fun _ _ _ h => h) (Or.inl ⟨by rfl, ?_⟩) (by assumption) ?_; rotate_left; (focus (intro w hSw; (try dsimp only at hSw); go_simp; (try with_reducible rfl))); (try simp only [Act.put, List.setIfInBounds_toArray]); (try dsimp only [List.set_cons_succ, List.set_cons_zero])
  refine htakeH (i := 2) (v := ?_) (some 25) rfl rfl (by kernel_rfl) (by kernel_rfl) (by kernel_rfl) (fun _ _ _ h => h) (Or.inl ⟨by rfl, ?_⟩) (by assumption) ?_; rotate_left; (focus (intro w hSw; (try dsimp only at hSw); go_simp; (try with_reducible rfl))); (try simp only [Act.put, List.setIfInBounds_toArray]); (try dsimp only [List.set_cons_succ, List.set_cons_zero])
  refine htakeH (i := 3) (v := ?_) (some 26) rfl rfl (by kernel_rfl) (by kernel_rfl) (by kernel_rfl) (fun _ _ _ h => h) (Or.inl ⟨by rfl, ?_⟩) (by assumption) ?_; rotate_left; (focus (intro w hSw; (try dsimp only at hSw); go_simp; (try with_reducible rfl))); (try simp only [Act.put, List.setIfInBounds_toArray]); (try dsimp only [List.set_cons_succ, List.set_cons_zero])
  refine htakeH (i := 4) (v := ?_) (some 27) rfl rfl (by kernel_rfl) (by kernel_rfl) (by kernel_rfl) (fun _ _ _ h => h) (Or.inl ⟨by rfl, ?_⟩) (by assumption) ?_; rotate_left; (focus (intro w hSw; (try dsimp only at hSw); go_simp; (try with_reducible rfl))); (try simp only [Act.put, List.setIfInBounds_toArray]); (try dsimp only [List.set_cons_succ, List.set_cons_zero])
  refine htakeH (i := 5) (v := ?_) (some 28) rfl rfl (by kernel_rfl) (by kernel_rfl) (by kernel_rfl) (fun _ _ _ h => h) (Or.inl ⟨by rfl, ?_⟩) (by assumption) ?_; rotate_left; (focus (intro w hSw; (try dsimp only at hSw); go_simp; (try with_reducible rfl))); (try simp only [Act.put, List.setIfInBounds_toArray]); (try dsimp only [List.set_cons_succ, List.set_cons_zero])
  refine htakeH (i := 6) (v := ?_) (some 29) rfl rfl (by kernel_rfl) (by kernel_rfl) (by kernel_rfl) (fun _ _ _ h => h) (Or.inl ⟨by rfl, ?_⟩) (by assumption) ?_; rotate_left; (focus (intro w hSw; (try dsimp only at hSw); go_simp; (try with_reducible rfl))); (try simp only [Act.put, List.setIfInBounds_toArray]); (try dsimp only [List.set_cons_succ, List.set_cons_zero])
  refine htakeH (i := 7) (v := ?_) (some 30) rfl rfl (by kernel_rfl) (by kernel_rfl) (by kernel_rfl) (fun _ _ _ h => h) (Or.inl ⟨by rfl, ?_⟩) (by assumption) ?_; rotate_left; (focus (intro w hSw; (try dsimp only at hSw); go_simp; (try with_reducible rfl))); (try simp only [Act.put, List.setIfInBounds_toArray]); (try dsimp only [List.set_cons_succ, List.set_cons_zero])
  refine htakeH (i := 8) (v := ?_) (some 31) rfl rfl (by kernel_rfl) (by kernel_rfl) (by kernel_rfl) (fun _ _ _ h => h) (Or.inl ⟨by rfl, ?_⟩) (by assumption) ?_; rotate_left; (focus (intro w hSw; (try dsimp only at hSw); go_simp; (try with_reducible rfl))); (try simp only [Act.put, List.setIfInBounds_toArray]); (try dsimp only [List.set_cons_succ, List.set_cons_zero])
  refine htakeH (i := 9) (v := ?_) (some 32) rfl rfl (by kernel_rfl) (by kernel_rfl) (by kernel_rfl) (fun _ _ _ h => h) (Or.inl ⟨by rfl, ?_⟩) (by assumption) ?_; rotate_left; (focus (intro w hSw; (try dsimp only at hSw); go_simp; (try with_reducible rfl))); (try simp only [Act.put, List.setIfInBounds_toArray]); (try dsimp only [List.set_cons_succ, List.set_cons_zero])
  refine htakeH (i := 11) (v := ?_) (some 34) rfl rfl (by kernel_rfl) (by kernel_rfl) (by kernel_rfl) (fun _ _ _ h => h) (Or.inl ⟨by rfl, ?_⟩) (by assumption) ?_; rotate_left; (focus (intro w hSw; (try dsimp only at hSw); go_simp; (try with_reducible rfl))); (try simp only [Act.put, List.setIfInBounds_toArray]); (try dsimp only [List.set_cons_succ, List.set_cons_zero])
  refine wpAnyH_ready (rs := [10]) (by kernel_rfl) (by simp) ?_
  refine AllReadyH.cons rfl (fun K hK => ?_) AllReadyH.nil
  go_simp
  refine (b0.out _).mono ?_; rintro e w3 ⟨rfl, y_w3⟩; have x_w3 := Ext.trans (show Ext W _ by assumption) y_w3; clear y_w3
  (try go_wp2_with fail)
  refine hK.out _ _ ?_ (fun hHeld => ?_)
  · (try dsimp only); (repeat' (with_reducible first | assumption | refine Ext.drew ?_ | refine Ext.drewN ?_ _ | exact Ext.refl _))
  clear hK K
  (try simp only [Act.put, List.setIfInBounds_toArray]); (try dsimp only [List.set_cons_succ, List.set_cons_zero])
  refine wpAnyH_ready (rs := [12]) (by kernel_rfl) (by simp) ?_
  refine AllReadyH.cons rfl (fun K hK => ?_) AllReadyH.nil
  go_simp
  refine (b1.out _).mono ?_; rintro e w4 ⟨rfl, y_w4⟩; have x_w4 := Ext.trans (show Ext W _ by assumption) y_w4; clear y_w4
  (try go_wp2_with fail)
  refine hK.out _ _ ?_ (fun hHeld => ?_)
  · (try dsimp only); (repeat' (with_reducible first | assumption | refine Ext.drew ?_ | refine Ext.drewN ?_ _ | exact Ext.refl _))
  clear hK K
  (try simp only [Act.put, List.setIfInBounds_toArray]); (try dsimp only [List.set_cons_succ, List.set_cons_zero])
  refine htakeH (i := 13) (v := ?_) (some 36) rfl rfl (by kernel_rfl) (by kernel_rfl) (by kernel_rfl) (fun _ _ _ h => h) (Or.inl ⟨by rfl, ?_⟩) (by assumption) ?_; rotate_left; (focus (intro w hSw; (try dsimp only at hSw); go_simp; (try with_reducible rfl))); (try simp only [Act.put, List.setIfInBounds_toArray]); (try dsimp only [List.set_cons_succ, List.set_cons_zero])
  refine htakeH (i := 14) (v := ?_) (some 37) rfl rfl (by kernel_rfl) (by kernel_rfl) (by kernel_rfl) (fun _ _ _ h => h) (Or.inl ⟨by rfl, ?_⟩) (by assumption) ?_; rotate_left; (focus (intro w hSw; (try dsimp only at hSw); go_simp; (try with_reducible rfl))); (try simp only [Act.put, List.setIfInBounds_toArray]); (try dsimp only [List.set_cons_succ, List.set_cons_zero])
  refine htakeH (i := 15) (v := ?_) (some 38) rfl rfl (by kernel_rfl) (by kernel_rfl) (by kernel_rfl) (fun _ _ _ h => h) (Or.inl ⟨by rfl, ?_⟩) (by assumption) ?_; rotate_left; (focus (intro w hSw; (try dsimp only at hSw); go_simp; (try with_reducible rfl))); (try simp only [Act.put, List.setIfInBounds_toArray]); (try dsimp only [List.set_cons_succ, List.set_cons_zero])
  refine htakeH (i := 16) (v := ?_) (some 39) rfl rfl (by kernel_rfl) (by kernel_rfl) (by kernel_rfl) (fun _ _ _ h => h) (Or.inl ⟨by rfl, ?_⟩) (by assumption) ?_; rotate_left; (focus (intro w hSw; (try dsimp only at hSw); go_simp; (try with_reducible rfl))); (try simp only [Act.put, List.setIfInBounds_toArray]); (try dsimp only [List.set_cons_succ, List.set_cons_zero])
  refine htakeH (i := 17) (v := ?_) (some 40) rfl rfl (by kernel_rfl) (by kernel_rfl) (by kernel_rfl) (fun _ _ _ h => h) (Or.inl ⟨by rfl, ?_⟩) (by assumption) ?_; rotate_left; (focus (intro w hSw; (try dsimp only at hSw); go_simp; (try with_reducible rfl))); (try simp only [Act.put, List.setIfInBounds_toArray]); (try dsimp only [List.set_cons_succ, List.set_cons_zero])
  refine htakeH (i := 19) (v := ?_) (some 42) rfl rfl (by kernel_rfl) (by kernel_rfl) (by kernel_rfl) (fun _ _ _ h => h) (Or.inl ⟨by rfl, ?_⟩) (by assumption) ?_; rotate_left; (focus (intro w hSw; (try dsimp only at hSw); go_simp; (try with_reducible rfl))); (try simp only [Act.put, List.setIfInBounds_toArray]); (try dsimp only [List.set_cons_succ, List.set_cons_zero])
  refine htakeH (i := 20) (v := ?_) (some 43) rfl rfl (by kernel_rfl) (by kernel_rfl) (by kernel_rfl) (fun _ _ _ h => h) (Or.inl ⟨by rfl, ?_⟩) (by assumption) ?_; rotate_left; (focus (intro w hSw; (try dsimp only at hSw); go_simp; (try with_reducible rfl))); (try simp only [Act.put, List.setIfInBounds_toArray]); (try dsimp only [List.set_cons_succ, List.set_cons_zero])
  refine wpAnyH_ready (rs := [18]) (by kernel_rfl) (by simp) ?_
  refine AllReadyH.cons rfl (fun K hK => ?_) AllReadyH.nil
  go_simp
  refine (c0.out _).mono ?_; rintro e w5 ⟨rfl, y_w5⟩; have x_w5 := Ext.trans (show Ext W _ by assumption) y_w5; clear y_w5
  (try go_wp2_with fail)
  refine hK.out _ _ ?_ (fun hHeld => ?_)
  · (try dsimp only); (repeat' (with_reducible first | assumption | refine Ext.drew ?_ | refine Ext.drewN ?_ _ | exact Ext.refl _))
  clear hK K
  (try simp only [Act.put, List.setIfInBounds_toArray]); (try dsimp only [List.set_cons_succ, List.set_cons_zero])
  refine wpAnyH_ready (rs := [21]) (by kernel_rfl) (by simp) ?_
  refine AllReadyH.cons rfl (fun K hK => ?_) AllReadyH.nil
  go_simp
  refine (c1.out _).mono ?_; rintro e w6 ⟨rfl, y_w6⟩; have x_w6 := Ext.trans (show Ext W _ by assumption) y_w6; clear y_w6
  (try go_wp2_with fail)
  refine hK.out _ _ ?_ (fun hHeld => ?_)
  · (try dsimp only); (repeat' (with_reducible first | assumption | refine Ext.drew ?_ | refine Ext.drewN ?_ _ | exact Ext.refl _))
  clear hK K
  (try simp only [Act.put, List.setIfInBounds_toArray]); (try dsimp only [List.set_cons_succ, List.set_cons_zero])
  refine htakeH (i := 22) (v := ?_) (some 45) rfl rfl (by kernel_rfl) (by kernel_rfl) (by kernel_rfl) (fun _ _ _ h => h) (Or.inl ⟨by rfl, ?_⟩) (by assumption) ?_; rotate_left; (focus (intro w hSw; (try dsimp only at hSw); go_simp; (try with_reducible rfl))); (try simp only [Act.put, List.setIfInBounds_toArray]); (try dsimp only [List.set_cons_succ, List.set_cons_zero])
  refine htakeH (i := 23) (v := ?_) (some 46) rfl rfl (by kernel_rfl) (by kernel_rfl) (by kernel_rfl) (fun _ _ _ h => h) (Or.inl ⟨by rfl, ?_⟩) (by assumption) ?_; rotate_left; (focus (intro w hSw; (try dsimp only at hSw); go_simp; (try with_reducible rfl))); (try simp only [Act.put, List.setIfInBounds_toArray]); (try dsimp only [List.set_cons_succ, List.set_cons_zero])
  refine htakeH (i := 24) (v := ?_) (some 47) rfl rfl (by kernel_rfl) (by kernel_rfl) (by kernel_rfl) (fun _ _ _ h => h) (Or.inl ⟨by rfl, ?_⟩) (by assumption) ?_; rotate_left; (focus (intro w hSw; (try dsimp only at hSw); go_simp; (try with_reducible rfl))); (try simp only [Act.put, List.setIfInBounds_toArray]); (try dsimp only [List.set_cons_succ, List.set_cons_zero])
  refine htakeH (i := 25) (v := ?_) (some 48) rfl rfl (by kernel_rfl) (by kernel_rfl) (by kernel_rfl) (fun _ _ _ h => h) (Or.inl ⟨by rfl, ?_⟩) (by assumption) ?_; rotate_left; (focus (intro w hSw; (try dsimp only at hSw); go_simp; (try with_reducible rfl))); (try simp only [Act.put, List.setIfInBounds_toArray]); (try dsimp only [List.set_cons_succ, List.set_cons_zero])
  refine htakeH (i := 27) (v := ?_) (some 50) rfl rfl (by kernel_rfl) (by kernel_rfl) (by kernel_rfl) (fun _ _ _ h => h) (Or.inl ⟨by rfl, ?_⟩) (by assumption) ?_; rotate_left; (focus (intro w hSw; (try dsimp only at hSw); go_simp; (try with_reducible rfl))); (try simp only [Act.put, List.setIfInBounds_toArray]); (try dsimp only [List.set_cons_succ, List.set_cons_zero])
  refine wpAnyH_ready (rs := [26]) (by kernel_rfl) (by simp) ?_
  refine AllReadyH.cons rfl (fun K hK => ?_) AllReadyH.nil
  go_simp
  refine (d0.out _).mono ?_; rintro e w7 ⟨rfl, y_w7⟩; have x_w7 := Ext.trans (show Ext W _ by assumption) y_w7; clear y_w7
  (try go_wp2_with fail)
  refine hK.out _ _ ?_ (fun hHeld => ?_)
  · (try dsimp only); (repeat' (with_reducible first | assumption | refine Ext.drew ?_ | refine Ext.drewN ?_ _ | exact Ext.refl _))
  clear hK K
  (try simp only [Act.put, List.setIfInBounds_toArray]); (try dsimp only [List.set_cons_succ, List.set_cons_zero])
  refine wpAnyH_ready (rs := [28]) (by kernel_rfl) (by simp) ?_
  refine AllReadyH.cons rfl (fun K hK => ?_) AllReadyH.nil
  go_simp
  refine (d1.out _).mono ?_; rintro e w8 ⟨rfl, y_w8⟩; have x_w8 := Ext.trans (show Ext W _ by assumption) y_w8; clear y_w8
  (try go_wp2_with fail)
  refine hK.out _ _ ?_ (fun hHeld => ?_)
  · (try dsimp only); (repeat' (with_reducible first | assumption | refine Ext.drew ?_ | refine Ext.drewN ?_ _ | exact Ext.refl _))
  clear hK K
  (try simp only [Act.put, List.setIfInBounds_toArray]); (try dsimp only [List.set_cons_succ, List.set_cons_zero])
  refine htakeH (i := 29) (v := ?_) (some 52) rfl rfl (by kernel_rfl) (by kernel_rfl) (by kernel_rfl) (fun _ _ _ h => h) (Or.inl ⟨by rfl, ?_⟩) (by assumption) ?_; rotate_left; (focus (intro w hSw; (try dsimp only at hSw); go_simp; (try with_reducible rfl))); (try simp only [Act.put, List.setIfInBounds_toArray]); (try dsimp only [List.set_cons_succ, List.set_cons_zero])
  refine htakeH (i := 30) (v := ?_) (some 53) rfl rfl (by kernel_rfl) (by kernel_rfl) (by kernel_rfl) (fun _ _ _ h => h) (Or.inl ⟨by rfl, ?_⟩) (by assumption) ?_; rotate_left; (focus (intro w hSw; (try dsimp only at hSw); go_simp; (try with_reducible rfl))); (try simp only [Act.put, List.setIfInBounds_toArray]); (try dsimp only [List.set_cons_succ, List.set_cons_zero])
  refine htakeH (i := 31) (v := ?_) (some 54) rfl rfl (by kernel_rfl) (by kernel_rfl) (by kernel_rfl) (fun _ _ _ h => h) (Or.inl ⟨by rfl, ?_⟩) (by assumption) ?_; rotate_left; (focus (intro w hSw; (try dsimp only at hSw); go_simp; (try with_reducible rfl))); (try simp only [Act.put, List.setIfInBounds_toArray]); (try dsimp only [List.set_cons_succ, List.set_cons_zero])
  refine wpAnyH_ready (rs := [32]) (by kernel_rfl) (by simp) ?_
  refine AllReadyH.cons rfl (fun K hK => ?_) AllReadyH.nil
  go_simp
  refine (ka.out _).mono ?_; rintro e w9 ⟨rfl, y_w9⟩; have x_w9 := Ext.trans (show Ext W _ by assumption) y_w9; clear y_w9
  (try go_wp2_with fail)
  refine hK.out _ _ ?_ (fun hHeld => ?_)
  · (try dsimp only); (repeat' (with_reducible first | assumption | refine Ext.drew ?_ | refine Ext.drewN ?_ _ | exact Ext.refl _))
  clear hK K
  (try simp only [Act.put, List.setIfInBounds_toArray]); (try dsimp only [List.set_cons_succ, List.set_cons_zero])
  refine htakeH (i := 33) (v := ?_) (some 56) rfl rfl (by kernel_rfl) (by kernel_rfl) (by kernel_rfl) (fun _ _ _ h => h) (Or.inl ⟨by rfl, ?_⟩) (by assumption) ?_; rotate_left; (focus (intro w hSw; (try dsimp only at hSw); go_simp; (try with_reducible rfl))); (try simp only [Act.put, List.setIfInBounds_toArray]); (try dsimp only [List.set_cons_succ, List.set_cons_zero])
  refine htakeH (i := 34) (v := ?_) (some 6) rfl rfl (by kernel_rfl) (by kernel_rfl) (by kernel_rfl) (fun _ _ _ h => h) (Or.inl ⟨by rfl, ?_⟩) (by assumption) ?_; rotate_left; (focus (intro w hSw; (try dsimp only at hSw); go_simp; (try with_reducible rfl))); (try simp only [Act.put, List.setIfInBounds_toArray]); (try dsimp only [List.set_cons_succ, List.set_cons_zero])
  refine wpAnyH_done (by kernel_rfl) ?_ _
  go_wp2_with fail
  go_ret
  exact ⟨rfl, X_W.out.trans (by assumption)⟩
theorem gst_no {lo hi wa ri ba bs cn il qu fa : Int} {dr : Bool} {r t d : Int} (h : ¬ GVal lo hi wa ri ba bs cn il qu fa) : gst lo hi wa ri ba bs cn il qu fa dr r t d = (bs, cn, qu, fa, 0) := if_neg fun x => h x.1
theorem gst_ok {lo hi wa ri ba bs cn il qu fa : Int} {dr : Bool} {r t d bs' cn' qu' fa' e : Int} (hv : GVal lo hi wa ri ba bs cn il qu fa) (h : gst lo hi wa ri ba bs cn il qu fa dr r t d = (bs', cn', qu', fa', e)) : GVal lo hi wa ri ba bs' cn' il qu' fa' ∧ 0 ≤ e ∧ e ≤ 255 := by
  unfold gst at h
  by_cases hf : fa = 0
  case neg => rw [if_neg (fun x => hf x.2)] at h; cases h; exact ⟨hv, by decide, by decide⟩
  rw [if_pos ⟨hv, hf⟩] at h
  unfold GVal at *
  repeat' split at h
  all_goals (cases h; omega)
set_option maxHeartbeats 8000000 in
theorem law_GuardStays_no (lo hi wa ri ba bs cn il qu fa : Int) (dr : Bool) (r t d : Int) (hv : ¬ GVal lo hi wa ri ba bs cn il qu fa) (w : World) : Calls Try.prog 10 #[.agg #[.int .i64 lo, .int .i64 hi, .int .i64 wa, .int .i64 ri, .int .i64 ba, .int .i64 bs, .int .i64 cn, .int .i64 il, .int .i64 qu, .int .i64 fa, .bool dr], .int .i64 r, .int .i64 t, .int .i64 d] w fun e w' => e = .returned (.bool true) ∧ Ext w w' := by
  have ka := Lib.hid law_awake
  have c1 := Lib.hid fun w => guard_GStep lo hi wa ri ba bs cn il qu fa r t d bs cn qu fa 0 dr (gst_no hv) w
  have c2 := Lib.hid fun w => guard_GValid lo hi wa ri ba bs cn il qu fa dr false (by rw [decide_eq_false hv]) w
  have e1 := fun w => eql_gsame lo hi wa ri ba bs cn il qu fa dr w
  clear hv
  go_enter Try.func10, Try.ntmps10
  go_wp2_with fail
  refine (c1.out _).mono ?_; rintro e w1 ⟨rfl, x_w1⟩
  obtain ⟨k_w1, f_w1⟩ := bcell x_w1
  have s_w1 := x_w1.size; (try simp at s_w1)
  have z0_w1 : w.heap.size < w1.heap.size := by omega
  have q0_w1 : w1.cell? ⟨w.heap.size, 0, none⟩ = some (.int .i64 lo) := by rw [k_w1 _ _ (by first | omega | (simp; done) | (simp; omega))]; go_simp
  have q1_w1 : w1.cell? ⟨w.heap.size, 1, none⟩ = some (.int .i64 hi) := by rw [k_w1 _ _ (by first | omega | (simp; done) | (simp; omega))]; go_simp
  have q2_w1 : w1.cell? ⟨w.heap.size, 2, none⟩ = some (.int .i64 wa) := by rw [k_w1 _ _ (by first | omega | (simp; done) | (simp; omega))]; go_simp
  have q3_w1 : w1.cell? ⟨w.heap.size, 3, none⟩ = some (.int .i64 ri) := by rw [k_w1 _ _ (by first | omega | (simp; done) | (simp; omega))]; go_simp
  have q4_w1 : w1.cell? ⟨w.heap.size, 4, none⟩ = some (.int .i64 ba) := by rw [k_w1 _ _ (by first | omega | (simp; done) | (simp; omega))]; go_simp
  have q5_w1 : w1.cell? ⟨w.heap.size, 5, none⟩ = some (.int .i64 bs) := by rw [k_w1 _ _ (by first | omega | (simp; done) | (simp; omega))]; go_simp
  have q6_w1 : w1.cell? ⟨w.heap.size, 6, none⟩ = some (.int .i64 cn) := by rw [k_w1 _ _ (by first | omega | (simp; done) | (simp; omega))]; go_simp
  have q7_w1 : w1.cell? ⟨w.heap.size, 7, none⟩ = some (.int .i64 il) := by rw [k_w1 _ _ (by first | omega | (simp; done) | (simp; omega))]; go_simp
  have q8_w1 : w1.cell? ⟨w.heap.size, 8, none⟩ = some (.int .i64 qu) := by rw [k_w1 _ _ (by first | omega | (simp; done) | (simp; omega))]; go_simp
  have q9_w1 : w1.cell? ⟨w.heap.size, 9, none⟩ = some (.int .i64 fa) := by rw [k_w1 _ _ (by first | omega | (simp; done) | (simp; omega))]; go_simp
  have q10_w1 : w1.cell? ⟨w.heap.size, 10, none⟩ = some (.bool dr) := by rw [k_w1 _ _ (by first | omega | (simp; done) | (simp; omega))]; go_simp
  have X_w1 := Lib.hid (show Ext w w1 from Ext.trans (by (repeat' (with_reducible first | refine Ext.drew ?_ | refine Ext.drewN ?_ _ | refine Ext.alloc ?_ _ | exact Ext.refl _ | fail | (refine Ext.setCell ?_ ?_ _; rotate_left; (focus ((try simp); try omega)))))) x_w1)
  clear x_w1 s_w1
  go_wp2_with fail
  refine (c2.out _).mono ?_; rintro e w2 ⟨rfl, x_w2⟩
  obtain ⟨k_w2, f_w2⟩ := bcell x_w2
  have s_w2 := x_w2.size; (try simp at s_w2)
  have z0_w2 : w.heap.size < w2.heap.size := by omega
  have z1_w2 : w1.heap.size < w2.heap.size := by omega
  have q0_w2 : w2.cell? ⟨w.heap.size, 0, none⟩ = some (.int .i64 lo) := by rw [k_w2 _ _ (by first | omega | (simp; done) | (simp; omega))]; go_simp
  have q1_w2 : w2.cell? ⟨w.heap.size, 1, none⟩ = some (.int .i64 hi) := by rw [k_w2 _ _ (by first | omega | (simp; done) | (simp; omega))]; go_simp
  have q2_w2 : w2.cell? ⟨w.heap.size, 2, none⟩ = some (.int .i64 wa) := by rw [k_w2 _ _ (by first | omega | (simp; done) | (simp; omega))]; go_simp
  have q3_w2 : w2.cell? ⟨w.heap.size, 3, none⟩ = some (.int .i64 ri) := by rw [k_w2 _ _ (by first | omega | (simp; done) | (simp; omega))]; go_simp
  have q4_w2 : w2.cell? ⟨w.heap.size, 4, none⟩ = some (.int .i64 ba) := by rw [k_w2 _ _ (by first | omega | (simp; done) | (simp; omega))]; go_simp
  have q5_w2 : w2.cell? ⟨w.heap.size, 5, none⟩ = some (.int .i64 bs) := by rw [k_w2 _ _ (by first | omega | (simp; done) | (simp; omega))]; go_simp
  have q6_w2 : w2.cell? ⟨w.heap.size, 6, none⟩ = some (.int .i64 cn) := by rw [k_w2 _ _ (by first | omega | (simp; done) | (simp; omega))]; go_simp
  have q7_w2 : w2.cell? ⟨w.heap.size, 7, none⟩ = some (.int .i64 il) := by rw [k_w2 _ _ (by first | omega | (simp; done) | (simp; omega))]; go_simp
  have q8_w2 : w2.cell? ⟨w.heap.size, 8, none⟩ = some (.int .i64 qu) := by rw [k_w2 _ _ (by first | omega | (simp; done) | (simp; omega))]; go_simp
  have q9_w2 : w2.cell? ⟨w.heap.size, 9, none⟩ = some (.int .i64 fa) := by rw [k_w2 _ _ (by first | omega | (simp; done) | (simp; omega))]; go_simp
  have q10_w2 : w2.cell? ⟨w.heap.size, 10, none⟩ = some (.bool dr) := by rw [k_w2 _ _ (by first | omega | (simp; done) | (simp; omega))]; go_simp
  have q11_w2 : w2.cell? ⟨w1.heap.size, 0, none⟩ = some (.int .i64 lo) := by rw [k_w2 _ _ (by first | omega | (simp; done) | (simp; omega))]; go_simp
  have q12_w2 : w2.cell? ⟨w1.heap.size, 1, none⟩ = some (.int .i64 hi) := by rw [k_w2 _ _ (by first | omega | (simp; done) | (simp; omega))]; go_simp
  have q13_w2 : w2.cell? ⟨w1.heap.size, 2, none⟩ = some (.int .i64 wa) := by rw [k_w2 _ _ (by first | omega | (simp; done) | (simp; omega))]; go_simp
  have q14_w2 : w2.cell? ⟨w1.heap.size, 3, none⟩ = some (.int .i64 ri) := by rw [k_w2 _ _ (by first | omega | (simp; done) | (simp; omega))]; go_simp
  have q15_w2 : w2.cell? ⟨w1.heap.size, 4, none⟩ = some (.int .i64 ba) := by rw [k_w2 _ _ (by first | omega | (simp; done) | (simp; omega))]; go_simp
  have q16_w2 : w2.cell? ⟨w1.heap.size, 5, none⟩ = some (.int .i64 bs) := by rw [k_w2 _ _ (by first | omega | (simp; done) | (simp; omega))]; go_simp
  have q17_w2 : w2.cell? ⟨w1.heap.size, 6, none⟩ = some (.int .i64 cn) := by rw [k_w2 _ _ (by first | omega | (simp; done) | (simp; omega))]; go_simp
  have q18_w2 : w2.cell? ⟨w1.heap.size, 7, none⟩ = some (.int .i64 il) := by rw [k_w2 _ _ (by first | omega | (simp; done) | (simp; omega))]; go_simp
  have q19_w2 : w2.cell? ⟨w1.heap.size, 8, none⟩ = some (.int .i64 qu) := by rw [k_w2 _ _ (by first | omega | (simp; done) | (simp; omega))]; go_simp
  have q20_w2 : w2.cell? ⟨w1.heap.size, 9, none⟩ = some (.int .i64 fa) := by rw [k_w2 _ _ (by first | omega | (simp; done) | (simp; omega))]; go_simp
  have q21_w2 : w2.cell? ⟨w1.heap.size, 10, none⟩ = some (.bool dr) := by rw [k_w2 _ _ (by first | omega | (simp; done) | (simp; omega))]; go_simp
  have X_w2 := Lib.hid (show Ext w w2 from Ext.trans (by (repeat' (with_reducible first | refine Ext.drew ?_ | refine Ext.drewN ?_ _ | refine Ext.alloc ?_ _ | exact Ext.refl _ | exact X_w1.out | (refine Ext.setCell ?_ ?_ _; rotate_left; (focus ((try simp); try omega)))))) x_w2)
  clear x_w2 s_w2
  go_wp2_with fail
  refine (ka.out _).mono ?_; rintro e w3 ⟨rfl, x_w3⟩
  obtain ⟨k_w3, f_w3⟩ := bcell x_w3
  have X_w3 := Lib.hid (show Ext w w3 from Ext.trans (by (repeat' (with_reducible first | refine Ext.drew ?_ | refine Ext.drewN ?_ _ | refine Ext.alloc ?_ _ | exact Ext.refl _ | exact X_w2.out | exact X_w1.out | (refine Ext.setCell ?_ ?_ _; rotate_left; (focus ((try simp); try omega)))))) x_w3)
  clear x_w3
  go_wp2_with fail
  go_ret
  exact ⟨rfl, by (repeat' (with_reducible first | refine Ext.drew ?_ | refine Ext.drewN ?_ _ | refine Ext.alloc ?_ _ | exact Ext.refl _ | exact X_w3.out | exact X_w2.out | exact X_w1.out | (refine Ext.setCell ?_ ?_ _; rotate_left; (focus ((try simp); try omega)))))⟩
set_option maxHeartbeats 16000000 in
theorem law_GuardStays_yes (lo hi wa ri ba bs cn il qu fa : Int) (dr : Bool) (r t d : Int) (hv : GVal lo hi wa ri ba bs cn il qu fa) (w : World) : Calls Try.prog 10 #[.agg #[.int .i64 lo, .int .i64 hi, .int .i64 wa, .int .i64 ri, .int .i64 ba, .int .i64 bs, .int .i64 cn, .int .i64 il, .int .i64 qu, .int .i64 fa, .bool dr], .int .i64 r, .int .i64 t, .int .i64 d] w fun e w' => e = .returned (.bool true) ∧ Ext w w' := by
  have ka := Lib.hid law_awake
  obtain ⟨bs', cn', qu', fa', k, h⟩ : ∃ bs' cn' qu' fa' k, gst lo hi wa ri ba bs cn il qu fa dr r t d = (bs', cn', qu', fa', k) := ⟨_, _, _, _, _, rfl⟩
  have c1 := Lib.hid fun w => guard_GStep lo hi wa ri ba bs cn il qu fa r t d bs' cn' qu' fa' k dr h w
  have c2 := Lib.hid fun w => guard_GValid lo hi wa ri ba bs cn il qu fa dr true (by rw [decide_eq_true hv]) w
  obtain ⟨hv', k0, k1⟩ := gst_ok hv h
  clear h hv
  have c3 := Lib.hid fun w => guard_GValid lo hi wa ri ba bs' cn' il qu' fa' dr true (by rw [decide_eq_true hv']) w
  have c4 := Lib.hid fun w => guard_Touch_ok lo hi wa ri ba bs' cn' il qu' fa' dr hv' w
  have c5 := Lib.hid fun w => guard_Door_ok lo hi wa ri ba bs' cn' il qu' fa' dr true hv' w
  have c6 := Lib.hid fun w => guard_Stop_ok lo hi wa ri ba bs' cn' il qu' fa' dr hv' w
  have c7 := Lib.hid fun w => guard_GValid lo hi wa ri ba bs' cn' il 0 fa' dr true (by rw [decide_eq_true (by unfold GVal at hv' ⊢; omega)]) w
  have c8 := Lib.hid fun w => guard_GValid lo hi wa ri ba bs' cn' il qu' fa' true true (by rw [decide_eq_true hv']) w
  have c9 := Lib.hid fun w => guard_GValid lo hi wa ri ba bs' cn' il qu' 4 dr true (by rw [decide_eq_true (by unfold GVal at hv' ⊢; omega)]) w
  obtain ⟨l0, l1, l2, l3, l4, l5, l6, l7, l8, l9, dz, m, hr⟩ : ∃ l0 l1 l2 l3 l4 l5 l6 l7 l8 l9 dz m, grs lo hi wa ri ba bs' cn' il qu' fa' dr r = (l0, l1, l2, l3, l4, l5, l6, l7, l8, l9, dz, m) := ⟨_, _, _, _, _, _, _, _, _, _, _, _, rfl⟩
  have a0 := Lib.hid fun w => guard_GReset lo hi wa ri ba bs' cn' il qu' fa' r l0 l1 l2 l3 l4 l5 l6 l7 l8 l9 m dr dz hr w
  have hm : ((m == 0) = false ∨ ((m == 0) = true ∧ GVal l0 l1 l2 l3 l4 l5 l6 l7 l8 l9)) := by
    unfold grs at hr
    rw [if_pos hv'] at hr
    by_cases h1 : fa' = 0
    · rw [if_pos h1] at hr; cases hr; exact .inl rfl
    rw [if_neg h1] at hr
    by_cases h2 : r < lo ∨ hi < r
    · rw [if_pos h2] at hr; cases hr; exact .inl rfl
    rw [if_neg h2] at hr
    cases hr
    exact .inr ⟨rfl, by unfold GVal at hv' ⊢; omega⟩
  have e1 := fun w => eql_gsame lo hi wa ri ba bs cn il qu fa dr w
  have d1 := dlt_f k0
  have d2 := dlt_f k1
  clear hr hv' k0 k1
  rcases hm with hm | ⟨hm, hz⟩
  · skip
    go_enter Try.func10, Try.ntmps10
    go_wp2_with fail
    refine (c1.out _).mono ?_; rintro e w1 ⟨rfl, x_w1⟩
    obtain ⟨k_w1, f_w1⟩ := bcell x_w1
    have s_w1 := x_w1.size; (try simp at s_w1)
    have z0_w1 : w.heap.size < w1.heap.size := by omega
    have q0_w1 : w1.cell? ⟨w.heap.size, 0, none⟩ = some (.int .i64 lo) := by rw [k_w1 _ _ (by first | omega | (simp; done) | (simp; omega))]; go_simp
    have q1_w1 : w1.cell? ⟨w.heap.size, 1, none⟩ = some (.int .i64 hi) := by rw [k_w1 _ _ (by first | omega | (simp; done) | (simp; omega))]; go_simp
    have q2_w1 : w1.cell? ⟨w.heap.size, 2, none⟩ = some (.int .i64 wa) := by rw [k_w1 _ _ (by first | omega | (simp; done) | (simp; omega))]; go_simp
    have q3_w1 : w1.cell? ⟨w.heap.size, 3, none⟩ = some (.int .i64 ri) := by rw [k_w1 _ _ (by first | omega | (simp; done) | (simp; omega))]; go_simp
    have q4_w1 : w1.cell? ⟨w.heap.size, 4, none⟩ = some (.int .i64 ba) := by rw [k_w1 _ _ (by first | omega | (simp; done) | (simp; omega))]; go_simp
    have q5_w1 : w1.cell? ⟨w.heap.size, 5, none⟩ = some (.int .i64 bs) := by rw [k_w1 _ _ (by first | omega | (simp; done) | (simp; omega))]; go_simp
    have q6_w1 : w1.cell? ⟨w.heap.size, 6, none⟩ = some (.int .i64 cn) := by rw [k_w1 _ _ (by first | omega | (simp; done) | (simp; omega))]; go_simp
    have q7_w1 : w1.cell? ⟨w.heap.size, 7, none⟩ = some (.int .i64 il) := by rw [k_w1 _ _ (by first | omega | (simp; done) | (simp; omega))]; go_simp
    have q8_w1 : w1.cell? ⟨w.heap.size, 8, none⟩ = some (.int .i64 qu) := by rw [k_w1 _ _ (by first | omega | (simp; done) | (simp; omega))]; go_simp
    have q9_w1 : w1.cell? ⟨w.heap.size, 9, none⟩ = some (.int .i64 fa) := by rw [k_w1 _ _ (by first | omega | (simp; done) | (simp; omega))]; go_simp
    have q10_w1 : w1.cell? ⟨w.heap.size, 10, none⟩ = some (.bool dr) := by rw [k_w1 _ _ (by first | omega | (simp; done) | (simp; omega))]; go_simp
    have X_w1 := Lib.hid (show Ext w w1 from Ext.trans (by (repeat' (with_reducible first | refine Ext.drew ?_ | refine Ext.drewN ?_ _ | refine Ext.alloc ?_ _ | exact Ext.refl _ | fail | (refine Ext.setCell ?_ ?_ _; rotate_left; (focus ((try simp); try omega)))))) x_w1)
    clear x_w1 s_w1
    go_wp2_with fail
    refine (c2.out _).mono ?_; rintro e w2 ⟨rfl, x_w2⟩
    obtain ⟨k_w2, f_w2⟩ := bcell x_w2
    have s_w2 := x_w2.size; (try simp at s_w2)
    have z0_w2 : w.heap.size < w2.heap.size := by omega
    have z1_w2 : w1.heap.size < w2.heap.size := by omega
    have q0_w2 : w2.cell? ⟨w.heap.size, 0, none⟩ = some (.int .i64 lo) := by rw [k_w2 _ _ (by first | omega | (simp; done) | (simp; omega))]; go_simp
    have q1_w2 : w2.cell? ⟨w.heap.size, 1, none⟩ = some (.int .i64 hi) := by rw [k_w2 _ _ (by first | omega | (simp; done) | (simp; omega))]; go_simp
    have q2_w2 : w2.cell? ⟨w.heap.size, 2, none⟩ = some (.int .i64 wa) := by rw [k_w2 _ _ (by first | omega | (simp; done) | (simp; omega))]; go_simp
    have q3_w2 : w2.cell? ⟨w.heap.size, 3, none⟩ = some (.int .i64 ri) := by rw [k_w2 _ _ (by first | omega | (simp; done) | (simp; omega))]; go_simp
    have q4_w2 : w2.cell? ⟨w.heap.size, 4, none⟩ = some (.int .i64 ba) := by rw [k_w2 _ _ (by first | omega | (simp; done) | (simp; omega))]; go_simp
    have q5_w2 : w2.cell? ⟨w.heap.size, 5, none⟩ = some (.int .i64 bs) := by rw [k_w2 _ _ (by first | omega | (simp; done) | (simp; omega))]; go_simp
    have q6_w2 : w2.cell? ⟨w.heap.size, 6, none⟩ = some (.int .i64 cn) := by rw [k_w2 _ _ (by first | omega | (simp; done) | (simp; omega))]; go_simp
    have q7_w2 : w2.cell? ⟨w.heap.size, 7, none⟩ = some (.int .i64 il) := by rw [k_w2 _ _ (by first | omega | (simp; done) | (simp; omega))]; go_simp
    have q8_w2 : w2.cell? ⟨w.heap.size, 8, none⟩ = some (.int .i64 qu) := by rw [k_w2 _ _ (by first | omega | (simp; done) | (simp; omega))]; go_simp
    have q9_w2 : w2.cell? ⟨w.heap.size, 9, none⟩ = some (.int .i64 fa) := by rw [k_w2 _ _ (by first | omega | (simp; done) | (simp; omega))]; go_simp
    have q10_w2 : w2.cell? ⟨w.heap.size, 10, none⟩ = some (.bool dr) := by rw [k_w2 _ _ (by first | omega | (simp; done) | (simp; omega))]; go_simp
    have q11_w2 : w2.cell? ⟨w1.heap.size, 0, none⟩ = some (.int .i64 lo) := by rw [k_w2 _ _ (by first | omega | (simp; done) | (simp; omega))]; go_simp
    have q12_w2 : w2.cell? ⟨w1.heap.size, 1, none⟩ = some (.int .i64 hi) := by rw [k_w2 _ _ (by first | omega | (simp; done) | (simp; omega))]; go_simp
    have q13_w2 : w2.cell? ⟨w1.heap.size, 2, none⟩ = some (.int .i64 wa) := by rw [k_w2 _ _ (by first | omega | (simp; done) | (simp; omega))]; go_simp
    have q14_w2 : w2.cell? ⟨w1.heap.size, 3, none⟩ = some (.int .i64 ri) := by rw [k_w2 _ _ (by first | omega | (simp; done) | (simp; omega))]; go_simp
    have q15_w2 : w2.cell? ⟨w1.heap.size, 4, none⟩ = some (.int .i64 ba) := by rw [k_w2 _ _ (by first | omega | (simp; done) | (simp; omega))]; go_simp
    have q16_w2 : w2.cell? ⟨w1.heap.size, 5, none⟩ = some (.int .i64 bs') := by rw [k_w2 _ _ (by first | omega | (simp; done) | (simp; omega))]; go_simp
    have q17_w2 : w2.cell? ⟨w1.heap.size, 6, none⟩ = some (.int .i64 cn') := by rw [k_w2 _ _ (by first | omega | (simp; done) | (simp; omega))]; go_simp
    have q18_w2 : w2.cell? ⟨w1.heap.size, 7, none⟩ = some (.int .i64 il) := by rw [k_w2 _ _ (by first | omega | (simp; done) | (simp; omega))]; go_simp
    have q19_w2 : w2.cell? ⟨w1.heap.size, 8, none⟩ = some (.int .i64 qu') := by rw [k_w2 _ _ (by first | omega | (simp; done) | (simp; omega))]; go_simp
    have q20_w2 : w2.cell? ⟨w1.heap.size, 9, none⟩ = some (.int .i64 fa') := by rw [k_w2 _ _ (by first | omega | (simp; done) | (simp; omega))]; go_simp
    have q21_w2 : w2.cell? ⟨w1.heap.size, 10, none⟩ = some (.bool dr) := by rw [k_w2 _ _ (by first | omega | (simp; done) | (simp; omega))]; go_simp
    have X_w2 := Lib.hid (show Ext w w2 from Ext.trans (by (repeat' (with_reducible first | refine Ext.drew ?_ | refine Ext.drewN ?_ _ | refine Ext.alloc ?_ _ | exact Ext.refl _ | exact X_w1.out | (refine Ext.setCell ?_ ?_ _; rotate_left; (focus ((try simp); try omega)))))) x_w2)
    clear x_w2 s_w2
    go_wp2_with fail
    refine (c3.out _).mono ?_; rintro e w3 ⟨rfl, x_w3⟩
    obtain ⟨k_w3, f_w3⟩ := bcell x_w3
    have s_w3 := x_w3.size; (try simp at s_w3)
    have z0_w3 : w.heap.size < w3.heap.size := by omega
    have z1_w3 : w1.heap.size < w3.heap.size := by omega
    have q0_w3 : w3.cell? ⟨w.heap.size, 0, none⟩ = some (.int .i64 lo) := by rw [k_w3 _ _ (by first | omega | (simp; done) | (simp; omega))]; go_simp
    have q1_w3 : w3.cell? ⟨w.heap.size, 1, none⟩ = some (.int .i64 hi) := by rw [k_w3 _ _ (by first | omega | (simp; done) | (simp; omega))]; go_simp
    have q2_w3 : w3.cell? ⟨w.heap.size, 2, none⟩ = some (.int .i64 wa) := by rw [k_w3 _ _ (by first | omega | (simp; done) | (simp; omega))]; go_simp
    have q3_w3 : w3.cell? ⟨w.heap.size, 3, none⟩ = some (.int .i64 ri) := by rw [k_w3 _ _ (by first | omega | (simp; done) | (simp; omega))]; go_simp
    have q4_w3 : w3.cell? ⟨w.heap.size, 4, none⟩ = some (.int .i64 ba) := by rw [k_w3 _ _ (by first | omega | (simp; done) | (simp; omega))]; go_simp
    have q5_w3 : w3.cell? ⟨w.heap.size, 5, none⟩ = some (.int .i64 bs) := by rw [k_w3 _ _ (by first | omega | (simp; done) | (simp; omega))]; go_simp
    have q6_w3 : w3.cell? ⟨w.heap.size, 6, none⟩ = some (.int .i64 cn) := by rw [k_w3 _ _ (by first | omega | (simp; done) | (simp; omega))]; go_simp
    have q7_w3 : w3.cell? ⟨w.heap.size, 7, none⟩ = some (.int .i64 il) := by rw [k_w3 _ _ (by first | omega | (simp; done) | (simp; omega))]; go_simp
    have q8_w3 : w3.cell? ⟨w.heap.size, 8, none⟩ = some (.int .i64 qu) := by rw [k_w3 _ _ (by first | omega | (simp; done) | (simp; omega))]; go_simp
    have q9_w3 : w3.cell? ⟨w.heap.size, 9, none⟩ = some (.int .i64 fa) := by rw [k_w3 _ _ (by first | omega | (simp; done) | (simp; omega))]; go_simp
    have q10_w3 : w3.cell? ⟨w.heap.size, 10, none⟩ = some (.bool dr) := by rw [k_w3 _ _ (by first | omega | (simp; done) | (simp; omega))]; go_simp
    have q11_w3 : w3.cell? ⟨w1.heap.size, 0, none⟩ = some (.int .i64 lo) := by rw [k_w3 _ _ (by first | omega | (simp; done) | (simp; omega))]; go_simp
    have q12_w3 : w3.cell? ⟨w1.heap.size, 1, none⟩ = some (.int .i64 hi) := by rw [k_w3 _ _ (by first | omega | (simp; done) | (simp; omega))]; go_simp
    have q13_w3 : w3.cell? ⟨w1.heap.size, 2, none⟩ = some (.int .i64 wa) := by rw [k_w3 _ _ (by first | omega | (simp; done) | (simp; omega))]; go_simp
    have q14_w3 : w3.cell? ⟨w1.heap.size, 3, none⟩ = some (.int .i64 ri) := by rw [k_w3 _ _ (by first | omega | (simp; done) | (simp; omega))]; go_simp
    have q15_w3 : w3.cell? ⟨w1.heap.size, 4, none⟩ = some (.int .i64 ba) := by rw [k_w3 _ _ (by first | omega | (simp; done) | (simp; omega))]; go_simp
    have q16_w3 : w3.cell? ⟨w1.heap.size, 5, none⟩ = some (.int .i64 bs') := by rw [k_w3 _ _ (by first | omega | (simp; done) | (simp; omega))]; go_simp
    have q17_w3 : w3.cell? ⟨w1.heap.size, 6, none⟩ = some (.int .i64 cn') := by rw [k_w3 _ _ (by first | omega | (simp; done) | (simp; omega))]; go_simp
    have q18_w3 : w3.cell? ⟨w1.heap.size, 7, none⟩ = some (.int .i64 il) := by rw [k_w3 _ _ (by first | omega | (simp; done) | (simp; omega))]; go_simp
    have q19_w3 : w3.cell? ⟨w1.heap.size, 8, none⟩ = some (.int .i64 qu') := by rw [k_w3 _ _ (by first | omega | (simp; done) | (simp; omega))]; go_simp
    have q20_w3 : w3.cell? ⟨w1.heap.size, 9, none⟩ = some (.int .i64 fa') := by rw [k_w3 _ _ (by first | omega | (simp; done) | (simp; omega))]; go_simp
    have q21_w3 : w3.cell? ⟨w1.heap.size, 10, none⟩ = some (.bool dr) := by rw [k_w3 _ _ (by first | omega | (simp; done) | (simp; omega))]; go_simp
    have X_w3 := Lib.hid (show Ext w w3 from Ext.trans (by (repeat' (with_reducible first | refine Ext.drew ?_ | refine Ext.drewN ?_ _ | refine Ext.alloc ?_ _ | exact Ext.refl _ | exact X_w2.out | exact X_w1.out | (refine Ext.setCell ?_ ?_ _; rotate_left; (focus ((try simp); try omega)))))) x_w3)
    clear x_w3 s_w3
    go_wp2_with fail
    refine (c4.out _).mono ?_; rintro e w4 ⟨rfl, x_w4⟩
    obtain ⟨k_w4, f_w4⟩ := bcell x_w4
    have s_w4 := x_w4.size; (try simp at s_w4)
    have z0_w4 : w.heap.size < w4.heap.size := by omega
    have z1_w4 : w1.heap.size < w4.heap.size := by omega
    have q0_w4 : w4.cell? ⟨w.heap.size, 0, none⟩ = some (.int .i64 lo) := by rw [k_w4 _ _ (by first | omega | (simp; done) | (simp; omega))]; go_simp
    have q1_w4 : w4.cell? ⟨w.heap.size, 1, none⟩ = some (.int .i64 hi) := by rw [k_w4 _ _ (by first | omega | (simp; done) | (simp; omega))]; go_simp
    have q2_w4 : w4.cell? ⟨w.heap.size, 2, none⟩ = some (.int .i64 wa) := by rw [k_w4 _ _ (by first | omega | (simp; done) | (simp; omega))]; go_simp
    have q3_w4 : w4.cell? ⟨w.heap.size, 3, none⟩ = some (.int .i64 ri) := by rw [k_w4 _ _ (by first | omega | (simp; done) | (simp; omega))]; go_simp
    have q4_w4 : w4.cell? ⟨w.heap.size, 4, none⟩ = some (.int .i64 ba) := by rw [k_w4 _ _ (by first | omega | (simp; done) | (simp; omega))]; go_simp
    have q5_w4 : w4.cell? ⟨w.heap.size, 5, none⟩ = some (.int .i64 bs) := by rw [k_w4 _ _ (by first | omega | (simp; done) | (simp; omega))]; go_simp
    have q6_w4 : w4.cell? ⟨w.heap.size, 6, none⟩ = some (.int .i64 cn) := by rw [k_w4 _ _ (by first | omega | (simp; done) | (simp; omega))]; go_simp
    have q7_w4 : w4.cell? ⟨w.heap.size, 7, none⟩ = some (.int .i64 il) := by rw [k_w4 _ _ (by first | omega | (simp; done) | (simp; omega))]; go_simp
    have q8_w4 : w4.cell? ⟨w.heap.size, 8, none⟩ = some (.int .i64 qu) := by rw [k_w4 _ _ (by first | omega | (simp; done) | (simp; omega))]; go_simp
    have q9_w4 : w4.cell? ⟨w.heap.size, 9, none⟩ = some (.int .i64 fa) := by rw [k_w4 _ _ (by first | omega | (simp; done) | (simp; omega))]; go_simp
    have q10_w4 : w4.cell? ⟨w.heap.size, 10, none⟩ = some (.bool dr) := by rw [k_w4 _ _ (by first | omega | (simp; done) | (simp; omega))]; go_simp
    have q11_w4 : w4.cell? ⟨w1.heap.size, 0, none⟩ = some (.int .i64 lo) := by rw [k_w4 _ _ (by first | omega | (simp; done) | (simp; omega))]; go_simp
    have q12_w4 : w4.cell? ⟨w1.heap.size, 1, none⟩ = some (.int .i64 hi) := by rw [k_w4 _ _ (by first | omega | (simp; done) | (simp; omega))]; go_simp
    have q13_w4 : w4.cell? ⟨w1.heap.size, 2, none⟩ = some (.int .i64 wa) := by rw [k_w4 _ _ (by first | omega | (simp; done) | (simp; omega))]; go_simp
    have q14_w4 : w4.cell? ⟨w1.heap.size, 3, none⟩ = some (.int .i64 ri) := by rw [k_w4 _ _ (by first | omega | (simp; done) | (simp; omega))]; go_simp
    have q15_w4 : w4.cell? ⟨w1.heap.size, 4, none⟩ = some (.int .i64 ba) := by rw [k_w4 _ _ (by first | omega | (simp; done) | (simp; omega))]; go_simp
    have q16_w4 : w4.cell? ⟨w1.heap.size, 5, none⟩ = some (.int .i64 bs') := by rw [k_w4 _ _ (by first | omega | (simp; done) | (simp; omega))]; go_simp
    have q17_w4 : w4.cell? ⟨w1.heap.size, 6, none⟩ = some (.int .i64 cn') := by rw [k_w4 _ _ (by first | omega | (simp; done) | (simp; omega))]; go_simp
    have q18_w4 : w4.cell? ⟨w1.heap.size, 7, none⟩ = some (.int .i64 il) := by rw [k_w4 _ _ (by first | omega | (simp; done) | (simp; omega))]; go_simp
    have q19_w4 : w4.cell? ⟨w1.heap.size, 8, none⟩ = some (.int .i64 qu') := by rw [k_w4 _ _ (by first | omega | (simp; done) | (simp; omega))]; go_simp
    have q20_w4 : w4.cell? ⟨w1.heap.size, 9, none⟩ = some (.int .i64 fa') := by rw [k_w4 _ _ (by first | omega | (simp; done) | (simp; omega))]; go_simp
    have q21_w4 : w4.cell? ⟨w1.heap.size, 10, none⟩ = some (.bool dr) := by rw [k_w4 _ _ (by first | omega | (simp; done) | (simp; omega))]; go_simp
    have X_w4 := Lib.hid (show Ext w w4 from Ext.trans (by (repeat' (with_reducible first | refine Ext.drew ?_ | refine Ext.drewN ?_ _ | refine Ext.alloc ?_ _ | exact Ext.refl _ | exact X_w3.out | exact X_w2.out | exact X_w1.out | (refine Ext.setCell ?_ ?_ _; rotate_left; (focus ((try simp); try omega)))))) x_w4)
    clear x_w4 s_w4
    go_wp2_with fail
    refine (c7.out _).mono ?_; rintro e w5 ⟨rfl, x_w5⟩
    obtain ⟨k_w5, f_w5⟩ := bcell x_w5
    have s_w5 := x_w5.size; (try simp at s_w5)
    have z0_w5 : w.heap.size < w5.heap.size := by omega
    have z1_w5 : w1.heap.size < w5.heap.size := by omega
    have q0_w5 : w5.cell? ⟨w.heap.size, 0, none⟩ = some (.int .i64 lo) := by rw [k_w5 _ _ (by first | omega | (simp; done) | (simp; omega))]; go_simp
    have q1_w5 : w5.cell? ⟨w.heap.size, 1, none⟩ = some (.int .i64 hi) := by rw [k_w5 _ _ (by first | omega | (simp; done) | (simp; omega))]; go_simp
    have q2_w5 : w5.cell? ⟨w.heap.size, 2, none⟩ = some (.int .i64 wa) := by rw [k_w5 _ _ (by first | omega | (simp; done) | (simp; omega))]; go_simp
    have q3_w5 : w5.cell? ⟨w.heap.size, 3, none⟩ = some (.int .i64 ri) := by rw [k_w5 _ _ (by first | omega | (simp; done) | (simp; omega))]; go_simp
    have q4_w5 : w5.cell? ⟨w.heap.size, 4, none⟩ = some (.int .i64 ba) := by rw [k_w5 _ _ (by first | omega | (simp; done) | (simp; omega))]; go_simp
    have q5_w5 : w5.cell? ⟨w.heap.size, 5, none⟩ = some (.int .i64 bs) := by rw [k_w5 _ _ (by first | omega | (simp; done) | (simp; omega))]; go_simp
    have q6_w5 : w5.cell? ⟨w.heap.size, 6, none⟩ = some (.int .i64 cn) := by rw [k_w5 _ _ (by first | omega | (simp; done) | (simp; omega))]; go_simp
    have q7_w5 : w5.cell? ⟨w.heap.size, 7, none⟩ = some (.int .i64 il) := by rw [k_w5 _ _ (by first | omega | (simp; done) | (simp; omega))]; go_simp
    have q8_w5 : w5.cell? ⟨w.heap.size, 8, none⟩ = some (.int .i64 qu) := by rw [k_w5 _ _ (by first | omega | (simp; done) | (simp; omega))]; go_simp
    have q9_w5 : w5.cell? ⟨w.heap.size, 9, none⟩ = some (.int .i64 fa) := by rw [k_w5 _ _ (by first | omega | (simp; done) | (simp; omega))]; go_simp
    have q10_w5 : w5.cell? ⟨w.heap.size, 10, none⟩ = some (.bool dr) := by rw [k_w5 _ _ (by first | omega | (simp; done) | (simp; omega))]; go_simp
    have q11_w5 : w5.cell? ⟨w1.heap.size, 0, none⟩ = some (.int .i64 lo) := by rw [k_w5 _ _ (by first | omega | (simp; done) | (simp; omega))]; go_simp
    have q12_w5 : w5.cell? ⟨w1.heap.size, 1, none⟩ = some (.int .i64 hi) := by rw [k_w5 _ _ (by first | omega | (simp; done) | (simp; omega))]; go_simp
    have q13_w5 : w5.cell? ⟨w1.heap.size, 2, none⟩ = some (.int .i64 wa) := by rw [k_w5 _ _ (by first | omega | (simp; done) | (simp; omega))]; go_simp
    have q14_w5 : w5.cell? ⟨w1.heap.size, 3, none⟩ = some (.int .i64 ri) := by rw [k_w5 _ _ (by first | omega | (simp; done) | (simp; omega))]; go_simp
    have q15_w5 : w5.cell? ⟨w1.heap.size, 4, none⟩ = some (.int .i64 ba) := by rw [k_w5 _ _ (by first | omega | (simp; done) | (simp; omega))]; go_simp
    have q16_w5 : w5.cell? ⟨w1.heap.size, 5, none⟩ = some (.int .i64 bs') := by rw [k_w5 _ _ (by first | omega | (simp; done) | (simp; omega))]; go_simp
    have q17_w5 : w5.cell? ⟨w1.heap.size, 6, none⟩ = some (.int .i64 cn') := by rw [k_w5 _ _ (by first | omega | (simp; done) | (simp; omega))]; go_simp
    have q18_w5 : w5.cell? ⟨w1.heap.size, 7, none⟩ = some (.int .i64 il) := by rw [k_w5 _ _ (by first | omega | (simp; done) | (simp; omega))]; go_simp
    have q19_w5 : w5.cell? ⟨w1.heap.size, 8, none⟩ = some (.int .i64 qu') := by rw [k_w5 _ _ (by first | omega | (simp; done) | (simp; omega))]; go_simp
    have q20_w5 : w5.cell? ⟨w1.heap.size, 9, none⟩ = some (.int .i64 fa') := by rw [k_w5 _ _ (by first | omega | (simp; done) | (simp; omega))]; go_simp
    have q21_w5 : w5.cell? ⟨w1.heap.size, 10, none⟩ = some (.bool dr) := by rw [k_w5 _ _ (by first | omega | (simp; done) | (simp; omega))]; go_simp
    have X_w5 := Lib.hid (show Ext w w5 from Ext.trans (by (repeat' (with_reducible first | refine Ext.drew ?_ | refine Ext.drewN ?_ _ | refine Ext.alloc ?_ _ | exact Ext.refl _ | exact X_w4.out | exact X_w3.out | exact X_w2.out | exact X_w1.out | (refine Ext.setCell ?_ ?_ _; rotate_left; (focus ((try simp); try omega)))))) x_w5)
    clear x_w5 s_w5
    go_wp2_with fail
    refine (c5.out _).mono ?_; rintro e w6 ⟨rfl, x_w6⟩
    obtain ⟨k_w6, f_w6⟩ := bcell x_w6
    have s_w6 := x_w6.size; (try simp at s_w6)
    have z0_w6 : w.heap.size < w6.heap.size := by omega
    have z1_w6 : w1.heap.size < w6.heap.size := by omega
    have q0_w6 : w6.cell? ⟨w.heap.size, 0, none⟩ = some (.int .i64 lo) := by rw [k_w6 _ _ (by first | omega | (simp; done) | (simp; omega))]; go_simp
    have q1_w6 : w6.cell? ⟨w.heap.size, 1, none⟩ = some (.int .i64 hi) := by rw [k_w6 _ _ (by first | omega | (simp; done) | (simp; omega))]; go_simp
    have q2_w6 : w6.cell? ⟨w.heap.size, 2, none⟩ = some (.int .i64 wa) := by rw [k_w6 _ _ (by first | omega | (simp; done) | (simp; omega))]; go_simp
    have q3_w6 : w6.cell? ⟨w.heap.size, 3, none⟩ = some (.int .i64 ri) := by rw [k_w6 _ _ (by first | omega | (simp; done) | (simp; omega))]; go_simp
    have q4_w6 : w6.cell? ⟨w.heap.size, 4, none⟩ = some (.int .i64 ba) := by rw [k_w6 _ _ (by first | omega | (simp; done) | (simp; omega))]; go_simp
    have q5_w6 : w6.cell? ⟨w.heap.size, 5, none⟩ = some (.int .i64 bs) := by rw [k_w6 _ _ (by first | omega | (simp; done) | (simp; omega))]; go_simp
    have q6_w6 : w6.cell? ⟨w.heap.size, 6, none⟩ = some (.int .i64 cn) := by rw [k_w6 _ _ (by first | omega | (simp; done) | (simp; omega))]; go_simp
    have q7_w6 : w6.cell? ⟨w.heap.size, 7, none⟩ = some (.int .i64 il) := by rw [k_w6 _ _ (by first | omega | (simp; done) | (simp; omega))]; go_simp
    have q8_w6 : w6.cell? ⟨w.heap.size, 8, none⟩ = some (.int .i64 qu) := by rw [k_w6 _ _ (by first | omega | (simp; done) | (simp; omega))]; go_simp
    have q9_w6 : w6.cell? ⟨w.heap.size, 9, none⟩ = some (.int .i64 fa) := by rw [k_w6 _ _ (by first | omega | (simp; done) | (simp; omega))]; go_simp
    have q10_w6 : w6.cell? ⟨w.heap.size, 10, none⟩ = some (.bool dr) := by rw [k_w6 _ _ (by first | omega | (simp; done) | (simp; omega))]; go_simp
    have q11_w6 : w6.cell? ⟨w1.heap.size, 0, none⟩ = some (.int .i64 lo) := by rw [k_w6 _ _ (by first | omega | (simp; done) | (simp; omega))]; go_simp
    have q12_w6 : w6.cell? ⟨w1.heap.size, 1, none⟩ = some (.int .i64 hi) := by rw [k_w6 _ _ (by first | omega | (simp; done) | (simp; omega))]; go_simp
    have q13_w6 : w6.cell? ⟨w1.heap.size, 2, none⟩ = some (.int .i64 wa) := by rw [k_w6 _ _ (by first | omega | (simp; done) | (simp; omega))]; go_simp
    have q14_w6 : w6.cell? ⟨w1.heap.size, 3, none⟩ = some (.int .i64 ri) := by rw [k_w6 _ _ (by first | omega | (simp; done) | (simp; omega))]; go_simp
    have q15_w6 : w6.cell? ⟨w1.heap.size, 4, none⟩ = some (.int .i64 ba) := by rw [k_w6 _ _ (by first | omega | (simp; done) | (simp; omega))]; go_simp
    have q16_w6 : w6.cell? ⟨w1.heap.size, 5, none⟩ = some (.int .i64 bs') := by rw [k_w6 _ _ (by first | omega | (simp; done) | (simp; omega))]; go_simp
    have q17_w6 : w6.cell? ⟨w1.heap.size, 6, none⟩ = some (.int .i64 cn') := by rw [k_w6 _ _ (by first | omega | (simp; done) | (simp; omega))]; go_simp
    have q18_w6 : w6.cell? ⟨w1.heap.size, 7, none⟩ = some (.int .i64 il) := by rw [k_w6 _ _ (by first | omega | (simp; done) | (simp; omega))]; go_simp
    have q19_w6 : w6.cell? ⟨w1.heap.size, 8, none⟩ = some (.int .i64 qu') := by rw [k_w6 _ _ (by first | omega | (simp; done) | (simp; omega))]; go_simp
    have q20_w6 : w6.cell? ⟨w1.heap.size, 9, none⟩ = some (.int .i64 fa') := by rw [k_w6 _ _ (by first | omega | (simp; done) | (simp; omega))]; go_simp
    have q21_w6 : w6.cell? ⟨w1.heap.size, 10, none⟩ = some (.bool dr) := by rw [k_w6 _ _ (by first | omega | (simp; done) | (simp; omega))]; go_simp
    have X_w6 := Lib.hid (show Ext w w6 from Ext.trans (by (repeat' (with_reducible first | refine Ext.drew ?_ | refine Ext.drewN ?_ _ | refine Ext.alloc ?_ _ | exact Ext.refl _ | exact X_w5.out | exact X_w4.out | exact X_w3.out | exact X_w2.out | exact X_w1.out | (refine Ext.setCell ?_ ?_ _; rotate_left; (focus ((try simp); try omega)))))) x_w6)
    clear x_w6 s_w6
    go_wp2_with fail
    refine (c8.out _).mono ?_; rintro e w7 ⟨rfl, x_w7⟩
    obtain ⟨k_w7, f_w7⟩ := bcell x_w7
    have s_w7 := x_w7.size; (try simp at s_w7)
    have z0_w7 : w.heap.size < w7.heap.size := by omega
    have z1_w7 : w1.heap.size < w7.heap.size := by omega
    have q0_w7 : w7.cell? ⟨w.heap.size, 0, none⟩ = some (.int .i64 lo) := by rw [k_w7 _ _ (by first | omega | (simp; done) | (simp; omega))]; go_simp
    have q1_w7 : w7.cell? ⟨w.heap.size, 1, none⟩ = some (.int .i64 hi) := by rw [k_w7 _ _ (by first | omega | (simp; done) | (simp; omega))]; go_simp
    have q2_w7 : w7.cell? ⟨w.heap.size, 2, none⟩ = some (.int .i64 wa) := by rw [k_w7 _ _ (by first | omega | (simp; done) | (simp; omega))]; go_simp
    have q3_w7 : w7.cell? ⟨w.heap.size, 3, none⟩ = some (.int .i64 ri) := by rw [k_w7 _ _ (by first | omega | (simp; done) | (simp; omega))]; go_simp
    have q4_w7 : w7.cell? ⟨w.heap.size, 4, none⟩ = some (.int .i64 ba) := by rw [k_w7 _ _ (by first | omega | (simp; done) | (simp; omega))]; go_simp
    have q5_w7 : w7.cell? ⟨w.heap.size, 5, none⟩ = some (.int .i64 bs) := by rw [k_w7 _ _ (by first | omega | (simp; done) | (simp; omega))]; go_simp
    have q6_w7 : w7.cell? ⟨w.heap.size, 6, none⟩ = some (.int .i64 cn) := by rw [k_w7 _ _ (by first | omega | (simp; done) | (simp; omega))]; go_simp
    have q7_w7 : w7.cell? ⟨w.heap.size, 7, none⟩ = some (.int .i64 il) := by rw [k_w7 _ _ (by first | omega | (simp; done) | (simp; omega))]; go_simp
    have q8_w7 : w7.cell? ⟨w.heap.size, 8, none⟩ = some (.int .i64 qu) := by rw [k_w7 _ _ (by first | omega | (simp; done) | (simp; omega))]; go_simp
    have q9_w7 : w7.cell? ⟨w.heap.size, 9, none⟩ = some (.int .i64 fa) := by rw [k_w7 _ _ (by first | omega | (simp; done) | (simp; omega))]; go_simp
    have q10_w7 : w7.cell? ⟨w.heap.size, 10, none⟩ = some (.bool dr) := by rw [k_w7 _ _ (by first | omega | (simp; done) | (simp; omega))]; go_simp
    have q11_w7 : w7.cell? ⟨w1.heap.size, 0, none⟩ = some (.int .i64 lo) := by rw [k_w7 _ _ (by first | omega | (simp; done) | (simp; omega))]; go_simp
    have q12_w7 : w7.cell? ⟨w1.heap.size, 1, none⟩ = some (.int .i64 hi) := by rw [k_w7 _ _ (by first | omega | (simp; done) | (simp; omega))]; go_simp
    have q13_w7 : w7.cell? ⟨w1.heap.size, 2, none⟩ = some (.int .i64 wa) := by rw [k_w7 _ _ (by first | omega | (simp; done) | (simp; omega))]; go_simp
    have q14_w7 : w7.cell? ⟨w1.heap.size, 3, none⟩ = some (.int .i64 ri) := by rw [k_w7 _ _ (by first | omega | (simp; done) | (simp; omega))]; go_simp
    have q15_w7 : w7.cell? ⟨w1.heap.size, 4, none⟩ = some (.int .i64 ba) := by rw [k_w7 _ _ (by first | omega | (simp; done) | (simp; omega))]; go_simp
    have q16_w7 : w7.cell? ⟨w1.heap.size, 5, none⟩ = some (.int .i64 bs') := by rw [k_w7 _ _ (by first | omega | (simp; done) | (simp; omega))]; go_simp
    have q17_w7 : w7.cell? ⟨w1.heap.size, 6, none⟩ = some (.int .i64 cn') := by rw [k_w7 _ _ (by first | omega | (simp; done) | (simp; omega))]; go_simp
    have q18_w7 : w7.cell? ⟨w1.heap.size, 7, none⟩ = some (.int .i64 il) := by rw [k_w7 _ _ (by first | omega | (simp; done) | (simp; omega))]; go_simp
    have q19_w7 : w7.cell? ⟨w1.heap.size, 8, none⟩ = some (.int .i64 qu') := by rw [k_w7 _ _ (by first | omega | (simp; done) | (simp; omega))]; go_simp
    have q20_w7 : w7.cell? ⟨w1.heap.size, 9, none⟩ = some (.int .i64 fa') := by rw [k_w7 _ _ (by first | omega | (simp; done) | (simp; omega))]; go_simp
    have q21_w7 : w7.cell? ⟨w1.heap.size, 10, none⟩ = some (.bool dr) := by rw [k_w7 _ _ (by first | omega | (simp; done) | (simp; omega))]; go_simp
    have X_w7 := Lib.hid (show Ext w w7 from Ext.trans (by (repeat' (with_reducible first | refine Ext.drew ?_ | refine Ext.drewN ?_ _ | refine Ext.alloc ?_ _ | exact Ext.refl _ | exact X_w6.out | exact X_w5.out | exact X_w4.out | exact X_w3.out | exact X_w2.out | exact X_w1.out | (refine Ext.setCell ?_ ?_ _; rotate_left; (focus ((try simp); try omega)))))) x_w7)
    clear x_w7 s_w7
    go_wp2_with fail
    refine (c6.out _).mono ?_; rintro e w8 ⟨rfl, x_w8⟩
    obtain ⟨k_w8, f_w8⟩ := bcell x_w8
    have s_w8 := x_w8.size; (try simp at s_w8)
    have z0_w8 : w.heap.size < w8.heap.size := by omega
    have z1_w8 : w1.heap.size < w8.heap.size := by omega
    have q0_w8 : w8.cell? ⟨w.heap.size, 0, none⟩ = some (.int .i64 lo) := by rw [k_w8 _ _ (by first | omega | (simp; done) | (simp; omega))]; go_simp
    have q1_w8 : w8.cell? ⟨w.heap.size, 1, none⟩ = some (.int .i64 hi) := by rw [k_w8 _ _ (by first | omega | (simp; done) | (simp; omega))]; go_simp
    have q2_w8 : w8.cell? ⟨w.heap.size, 2, none⟩ = some (.int .i64 wa) := by rw [k_w8 _ _ (by first | omega | (simp; done) | (simp; omega))]; go_simp
    have q3_w8 : w8.cell? ⟨w.heap.size, 3, none⟩ = some (.int .i64 ri) := by rw [k_w8 _ _ (by first | omega | (simp; done) | (simp; omega))]; go_simp
    have q4_w8 : w8.cell? ⟨w.heap.size, 4, none⟩ = some (.int .i64 ba) := by rw [k_w8 _ _ (by first | omega | (simp; done) | (simp; omega))]; go_simp
    have q5_w8 : w8.cell? ⟨w.heap.size, 5, none⟩ = some (.int .i64 bs) := by rw [k_w8 _ _ (by first | omega | (simp; done) | (simp; omega))]; go_simp
    have q6_w8 : w8.cell? ⟨w.heap.size, 6, none⟩ = some (.int .i64 cn) := by rw [k_w8 _ _ (by first | omega | (simp; done) | (simp; omega))]; go_simp
    have q7_w8 : w8.cell? ⟨w.heap.size, 7, none⟩ = some (.int .i64 il) := by rw [k_w8 _ _ (by first | omega | (simp; done) | (simp; omega))]; go_simp
    have q8_w8 : w8.cell? ⟨w.heap.size, 8, none⟩ = some (.int .i64 qu) := by rw [k_w8 _ _ (by first | omega | (simp; done) | (simp; omega))]; go_simp
    have q9_w8 : w8.cell? ⟨w.heap.size, 9, none⟩ = some (.int .i64 fa) := by rw [k_w8 _ _ (by first | omega | (simp; done) | (simp; omega))]; go_simp
    have q10_w8 : w8.cell? ⟨w.heap.size, 10, none⟩ = some (.bool dr) := by rw [k_w8 _ _ (by first | omega | (simp; done) | (simp; omega))]; go_simp
    have q11_w8 : w8.cell? ⟨w1.heap.size, 0, none⟩ = some (.int .i64 lo) := by rw [k_w8 _ _ (by first | omega | (simp; done) | (simp; omega))]; go_simp
    have q12_w8 : w8.cell? ⟨w1.heap.size, 1, none⟩ = some (.int .i64 hi) := by rw [k_w8 _ _ (by first | omega | (simp; done) | (simp; omega))]; go_simp
    have q13_w8 : w8.cell? ⟨w1.heap.size, 2, none⟩ = some (.int .i64 wa) := by rw [k_w8 _ _ (by first | omega | (simp; done) | (simp; omega))]; go_simp
    have q14_w8 : w8.cell? ⟨w1.heap.size, 3, none⟩ = some (.int .i64 ri) := by rw [k_w8 _ _ (by first | omega | (simp; done) | (simp; omega))]; go_simp
    have q15_w8 : w8.cell? ⟨w1.heap.size, 4, none⟩ = some (.int .i64 ba) := by rw [k_w8 _ _ (by first | omega | (simp; done) | (simp; omega))]; go_simp
    have q16_w8 : w8.cell? ⟨w1.heap.size, 5, none⟩ = some (.int .i64 bs') := by rw [k_w8 _ _ (by first | omega | (simp; done) | (simp; omega))]; go_simp
    have q17_w8 : w8.cell? ⟨w1.heap.size, 6, none⟩ = some (.int .i64 cn') := by rw [k_w8 _ _ (by first | omega | (simp; done) | (simp; omega))]; go_simp
    have q18_w8 : w8.cell? ⟨w1.heap.size, 7, none⟩ = some (.int .i64 il) := by rw [k_w8 _ _ (by first | omega | (simp; done) | (simp; omega))]; go_simp
    have q19_w8 : w8.cell? ⟨w1.heap.size, 8, none⟩ = some (.int .i64 qu') := by rw [k_w8 _ _ (by first | omega | (simp; done) | (simp; omega))]; go_simp
    have q20_w8 : w8.cell? ⟨w1.heap.size, 9, none⟩ = some (.int .i64 fa') := by rw [k_w8 _ _ (by first | omega | (simp; done) | (simp; omega))]; go_simp
    have q21_w8 : w8.cell? ⟨w1.heap.size, 10, none⟩ = some (.bool dr) := by rw [k_w8 _ _ (by first | omega | (simp; done) | (simp; omega))]; go_simp
    have X_w8 := Lib.hid (show Ext w w8 from Ext.trans (by (repeat' (with_reducible first | refine Ext.drew ?_ | refine Ext.drewN ?_ _ | refine Ext.alloc ?_ _ | exact Ext.refl _ | exact X_w7.out | exact X_w6.out | exact X_w5.out | exact X_w4.out | exact X_w3.out | exact X_w2.out | exact X_w1.out | (refine Ext.setCell ?_ ?_ _; rotate_left; (focus ((try simp); try omega)))))) x_w8)
    clear x_w8 s_w8
    go_wp2_with fail
    refine (c9.out _).mono ?_; rintro e w9 ⟨rfl, x_w9⟩
    obtain ⟨k_w9, f_w9⟩ := bcell x_w9
    have s_w9 := x_w9.size; (try simp at s_w9)
    have z0_w9 : w.heap.size < w9.heap.size := by omega
    have z1_w9 : w1.heap.size < w9.heap.size := by omega
    have q0_w9 : w9.cell? ⟨w.heap.size, 0, none⟩ = some (.int .i64 lo) := by rw [k_w9 _ _ (by first | omega | (simp; done) | (simp; omega))]; go_simp
    have q1_w9 : w9.cell? ⟨w.heap.size, 1, none⟩ = some (.int .i64 hi) := by rw [k_w9 _ _ (by first | omega | (simp; done) | (simp; omega))]; go_simp
    have q2_w9 : w9.cell? ⟨w.heap.size, 2, none⟩ = some (.int .i64 wa) := by rw [k_w9 _ _ (by first | omega | (simp; done) | (simp; omega))]; go_simp
    have q3_w9 : w9.cell? ⟨w.heap.size, 3, none⟩ = some (.int .i64 ri) := by rw [k_w9 _ _ (by first | omega | (simp; done) | (simp; omega))]; go_simp
    have q4_w9 : w9.cell? ⟨w.heap.size, 4, none⟩ = some (.int .i64 ba) := by rw [k_w9 _ _ (by first | omega | (simp; done) | (simp; omega))]; go_simp
    have q5_w9 : w9.cell? ⟨w.heap.size, 5, none⟩ = some (.int .i64 bs) := by rw [k_w9 _ _ (by first | omega | (simp; done) | (simp; omega))]; go_simp
    have q6_w9 : w9.cell? ⟨w.heap.size, 6, none⟩ = some (.int .i64 cn) := by rw [k_w9 _ _ (by first | omega | (simp; done) | (simp; omega))]; go_simp
    have q7_w9 : w9.cell? ⟨w.heap.size, 7, none⟩ = some (.int .i64 il) := by rw [k_w9 _ _ (by first | omega | (simp; done) | (simp; omega))]; go_simp
    have q8_w9 : w9.cell? ⟨w.heap.size, 8, none⟩ = some (.int .i64 qu) := by rw [k_w9 _ _ (by first | omega | (simp; done) | (simp; omega))]; go_simp
    have q9_w9 : w9.cell? ⟨w.heap.size, 9, none⟩ = some (.int .i64 fa) := by rw [k_w9 _ _ (by first | omega | (simp; done) | (simp; omega))]; go_simp
    have q10_w9 : w9.cell? ⟨w.heap.size, 10, none⟩ = some (.bool dr) := by rw [k_w9 _ _ (by first | omega | (simp; done) | (simp; omega))]; go_simp
    have q11_w9 : w9.cell? ⟨w1.heap.size, 0, none⟩ = some (.int .i64 lo) := by rw [k_w9 _ _ (by first | omega | (simp; done) | (simp; omega))]; go_simp
    have q12_w9 : w9.cell? ⟨w1.heap.size, 1, none⟩ = some (.int .i64 hi) := by rw [k_w9 _ _ (by first | omega | (simp; done) | (simp; omega))]; go_simp
    have q13_w9 : w9.cell? ⟨w1.heap.size, 2, none⟩ = some (.int .i64 wa) := by rw [k_w9 _ _ (by first | omega | (simp; done) | (simp; omega))]; go_simp
    have q14_w9 : w9.cell? ⟨w1.heap.size, 3, none⟩ = some (.int .i64 ri) := by rw [k_w9 _ _ (by first | omega | (simp; done) | (simp; omega))]; go_simp
    have q15_w9 : w9.cell? ⟨w1.heap.size, 4, none⟩ = some (.int .i64 ba) := by rw [k_w9 _ _ (by first | omega | (simp; done) | (simp; omega))]; go_simp
    have q16_w9 : w9.cell? ⟨w1.heap.size, 5, none⟩ = some (.int .i64 bs') := by rw [k_w9 _ _ (by first | omega | (simp; done) | (simp; omega))]; go_simp
    have q17_w9 : w9.cell? ⟨w1.heap.size, 6, none⟩ = some (.int .i64 cn') := by rw [k_w9 _ _ (by first | omega | (simp; done) | (simp; omega))]; go_simp
    have q18_w9 : w9.cell? ⟨w1.heap.size, 7, none⟩ = some (.int .i64 il) := by rw [k_w9 _ _ (by first | omega | (simp; done) | (simp; omega))]; go_simp
    have q19_w9 : w9.cell? ⟨w1.heap.size, 8, none⟩ = some (.int .i64 qu') := by rw [k_w9 _ _ (by first | omega | (simp; done) | (simp; omega))]; go_simp
    have q20_w9 : w9.cell? ⟨w1.heap.size, 9, none⟩ = some (.int .i64 fa') := by rw [k_w9 _ _ (by first | omega | (simp; done) | (simp; omega))]; go_simp
    have q21_w9 : w9.cell? ⟨w1.heap.size, 10, none⟩ = some (.bool dr) := by rw [k_w9 _ _ (by first | omega | (simp; done) | (simp; omega))]; go_simp
    have X_w9 := Lib.hid (show Ext w w9 from Ext.trans (by (repeat' (with_reducible first | refine Ext.drew ?_ | refine Ext.drewN ?_ _ | refine Ext.alloc ?_ _ | exact Ext.refl _ | exact X_w8.out | exact X_w7.out | exact X_w6.out | exact X_w5.out | exact X_w4.out | exact X_w3.out | exact X_w2.out | exact X_w1.out | (refine Ext.setCell ?_ ?_ _; rotate_left; (focus ((try simp); try omega)))))) x_w9)
    clear x_w9 s_w9
    go_wp2_with fail
    refine (a0.out _).mono ?_; rintro e w10 ⟨rfl, x_w10⟩
    obtain ⟨k_w10, f_w10⟩ := bcell x_w10
    have s_w10 := x_w10.size; (try simp at s_w10)
    have z0_w10 : w.heap.size < w10.heap.size := by omega
    have z1_w10 : w1.heap.size < w10.heap.size := by omega
    have q0_w10 : w10.cell? ⟨w.heap.size, 0, none⟩ = some (.int .i64 lo) := by rw [k_w10 _ _ (by first | omega | (simp; done) | (simp; omega))]; go_simp
    have q1_w10 : w10.cell? ⟨w.heap.size, 1, none⟩ = some (.int .i64 hi) := by rw [k_w10 _ _ (by first | omega | (simp; done) | (simp; omega))]; go_simp
    have q2_w10 : w10.cell? ⟨w.heap.size, 2, none⟩ = some (.int .i64 wa) := by rw [k_w10 _ _ (by first | omega | (simp; done) | (simp; omega))]; go_simp
    have q3_w10 : w10.cell? ⟨w.heap.size, 3, none⟩ = some (.int .i64 ri) := by rw [k_w10 _ _ (by first | omega | (simp; done) | (simp; omega))]; go_simp
    have q4_w10 : w10.cell? ⟨w.heap.size, 4, none⟩ = some (.int .i64 ba) := by rw [k_w10 _ _ (by first | omega | (simp; done) | (simp; omega))]; go_simp
    have q5_w10 : w10.cell? ⟨w.heap.size, 5, none⟩ = some (.int .i64 bs) := by rw [k_w10 _ _ (by first | omega | (simp; done) | (simp; omega))]; go_simp
    have q6_w10 : w10.cell? ⟨w.heap.size, 6, none⟩ = some (.int .i64 cn) := by rw [k_w10 _ _ (by first | omega | (simp; done) | (simp; omega))]; go_simp
    have q7_w10 : w10.cell? ⟨w.heap.size, 7, none⟩ = some (.int .i64 il) := by rw [k_w10 _ _ (by first | omega | (simp; done) | (simp; omega))]; go_simp
    have q8_w10 : w10.cell? ⟨w.heap.size, 8, none⟩ = some (.int .i64 qu) := by rw [k_w10 _ _ (by first | omega | (simp; done) | (simp; omega))]; go_simp
    have q9_w10 : w10.cell? ⟨w.heap.size, 9, none⟩ = some (.int .i64 fa) := by rw [k_w10 _ _ (by first | omega | (simp; done) | (simp; omega))]; go_simp
    have q10_w10 : w10.cell? ⟨w.heap.size, 10, none⟩ = some (.bool dr) := by rw [k_w10 _ _ (by first | omega | (simp; done) | (simp; omega))]; go_simp
    have q11_w10 : w10.cell? ⟨w1.heap.size, 0, none⟩ = some (.int .i64 lo) := by rw [k_w10 _ _ (by first | omega | (simp; done) | (simp; omega))]; go_simp
    have q12_w10 : w10.cell? ⟨w1.heap.size, 1, none⟩ = some (.int .i64 hi) := by rw [k_w10 _ _ (by first | omega | (simp; done) | (simp; omega))]; go_simp
    have q13_w10 : w10.cell? ⟨w1.heap.size, 2, none⟩ = some (.int .i64 wa) := by rw [k_w10 _ _ (by first | omega | (simp; done) | (simp; omega))]; go_simp
    have q14_w10 : w10.cell? ⟨w1.heap.size, 3, none⟩ = some (.int .i64 ri) := by rw [k_w10 _ _ (by first | omega | (simp; done) | (simp; omega))]; go_simp
    have q15_w10 : w10.cell? ⟨w1.heap.size, 4, none⟩ = some (.int .i64 ba) := by rw [k_w10 _ _ (by first | omega | (simp; done) | (simp; omega))]; go_simp
    have q16_w10 : w10.cell? ⟨w1.heap.size, 5, none⟩ = some (.int .i64 bs') := by rw [k_w10 _ _ (by first | omega | (simp; done) | (simp; omega))]; go_simp
    have q17_w10 : w10.cell? ⟨w1.heap.size, 6, none⟩ = some (.int .i64 cn') := by rw [k_w10 _ _ (by first | omega | (simp; done) | (simp; omega))]; go_simp
    have q18_w10 : w10.cell? ⟨w1.heap.size, 7, none⟩ = some (.int .i64 il) := by rw [k_w10 _ _ (by first | omega | (simp; done) | (simp; omega))]; go_simp
    have q19_w10 : w10.cell? ⟨w1.heap.size, 8, none⟩ = some (.int .i64 qu') := by rw [k_w10 _ _ (by first | omega | (simp; done) | (simp; omega))]; go_simp
    have q20_w10 : w10.cell? ⟨w1.heap.size, 9, none⟩ = some (.int .i64 fa') := by rw [k_w10 _ _ (by first | omega | (simp; done) | (simp; omega))]; go_simp
    have q21_w10 : w10.cell? ⟨w1.heap.size, 10, none⟩ = some (.bool dr) := by rw [k_w10 _ _ (by first | omega | (simp; done) | (simp; omega))]; go_simp
    have X_w10 := Lib.hid (show Ext w w10 from Ext.trans (by (repeat' (with_reducible first | refine Ext.drew ?_ | refine Ext.drewN ?_ _ | refine Ext.alloc ?_ _ | exact Ext.refl _ | exact X_w9.out | exact X_w8.out | exact X_w7.out | exact X_w6.out | exact X_w5.out | exact X_w4.out | exact X_w3.out | exact X_w2.out | exact X_w1.out | (refine Ext.setCell ?_ ?_ _; rotate_left; (focus ((try simp); try omega)))))) x_w10)
    clear x_w10 s_w10
    go_wp2_with fail
    refine (ka.out _).mono ?_; rintro e v1 ⟨rfl, x_v1⟩
    obtain ⟨k_v1, f_v1⟩ := bcell x_v1
    have X_v1 := Lib.hid (show Ext w v1 from Ext.trans (by (repeat' (with_reducible first | refine Ext.drew ?_ | refine Ext.drewN ?_ _ | refine Ext.alloc ?_ _ | exact Ext.refl _ | exact X_w10.out | exact X_w9.out | exact X_w8.out | exact X_w7.out | exact X_w6.out | exact X_w5.out | exact X_w4.out | exact X_w3.out | exact X_w2.out | exact X_w1.out | (refine Ext.setCell ?_ ?_ _; rotate_left; (focus ((try simp); try omega)))))) x_v1)
    clear x_v1
    go_wp2_with fail
    go_ret
    exact ⟨rfl, by (repeat' (with_reducible first | refine Ext.drew ?_ | refine Ext.drewN ?_ _ | refine Ext.alloc ?_ _ | exact Ext.refl _ | exact X_v1.out | exact X_w10.out | exact X_w9.out | exact X_w8.out | exact X_w7.out | exact X_w6.out | exact X_w5.out | exact X_w4.out | exact X_w3.out | exact X_w2.out | exact X_w1.out | (refine Ext.setCell ?_ ?_ _; rotate_left; (focus ((try simp); try omega)))))⟩
  · have cz := Lib.hid fun w => guard_GValid l0 l1 l2 l3 l4 l5 l6 l7 l8 l9 dz true (by rw [decide_eq_true hz]) w
    clear hz
    go_enter Try.func10, Try.ntmps10
    go_wp2_with fail
    refine (c1.out _).mono ?_; rintro e w1 ⟨rfl, x_w1⟩
    obtain ⟨k_w1, f_w1⟩ := bcell x_w1
    have s_w1 := x_w1.size; (try simp at s_w1)
    have z0_w1 : w.heap.size < w1.heap.size := by omega
    have q0_w1 : w1.cell? ⟨w.heap.size, 0, none⟩ = some (.int .i64 lo) := by rw [k_w1 _ _ (by first | omega | (simp; done) | (simp; omega))]; go_simp
    have q1_w1 : w1.cell? ⟨w.heap.size, 1, none⟩ = some (.int .i64 hi) := by rw [k_w1 _ _ (by first | omega | (simp; done) | (simp; omega))]; go_simp
    have q2_w1 : w1.cell? ⟨w.heap.size, 2, none⟩ = some (.int .i64 wa) := by rw [k_w1 _ _ (by first | omega | (simp; done) | (simp; omega))]; go_simp
    have q3_w1 : w1.cell? ⟨w.heap.size, 3, none⟩ = some (.int .i64 ri) := by rw [k_w1 _ _ (by first | omega | (simp; done) | (simp; omega))]; go_simp
    have q4_w1 : w1.cell? ⟨w.heap.size, 4, none⟩ = some (.int .i64 ba) := by rw [k_w1 _ _ (by first | omega | (simp; done) | (simp; omega))]; go_simp
    have q5_w1 : w1.cell? ⟨w.heap.size, 5, none⟩ = some (.int .i64 bs) := by rw [k_w1 _ _ (by first | omega | (simp; done) | (simp; omega))]; go_simp
    have q6_w1 : w1.cell? ⟨w.heap.size, 6, none⟩ = some (.int .i64 cn) := by rw [k_w1 _ _ (by first | omega | (simp; done) | (simp; omega))]; go_simp
    have q7_w1 : w1.cell? ⟨w.heap.size, 7, none⟩ = some (.int .i64 il) := by rw [k_w1 _ _ (by first | omega | (simp; done) | (simp; omega))]; go_simp
    have q8_w1 : w1.cell? ⟨w.heap.size, 8, none⟩ = some (.int .i64 qu) := by rw [k_w1 _ _ (by first | omega | (simp; done) | (simp; omega))]; go_simp
    have q9_w1 : w1.cell? ⟨w.heap.size, 9, none⟩ = some (.int .i64 fa) := by rw [k_w1 _ _ (by first | omega | (simp; done) | (simp; omega))]; go_simp
    have q10_w1 : w1.cell? ⟨w.heap.size, 10, none⟩ = some (.bool dr) := by rw [k_w1 _ _ (by first | omega | (simp; done) | (simp; omega))]; go_simp
    have X_w1 := Lib.hid (show Ext w w1 from Ext.trans (by (repeat' (with_reducible first | refine Ext.drew ?_ | refine Ext.drewN ?_ _ | refine Ext.alloc ?_ _ | exact Ext.refl _ | fail | (refine Ext.setCell ?_ ?_ _; rotate_left; (focus ((try simp); try omega)))))) x_w1)
    clear x_w1 s_w1
    go_wp2_with fail
    refine (c2.out _).mono ?_; rintro e w2 ⟨rfl, x_w2⟩
    obtain ⟨k_w2, f_w2⟩ := bcell x_w2
    have s_w2 := x_w2.size; (try simp at s_w2)
    have z0_w2 : w.heap.size < w2.heap.size := by omega
    have z1_w2 : w1.heap.size < w2.heap.size := by omega
    have q0_w2 : w2.cell? ⟨w.heap.size, 0, none⟩ = some (.int .i64 lo) := by rw [k_w2 _ _ (by first | omega | (simp; done) | (simp; omega))]; go_simp
    have q1_w2 : w2.cell? ⟨w.heap.size, 1, none⟩ = some (.int .i64 hi) := by rw [k_w2 _ _ (by first | omega | (simp; done) | (simp; omega))]; go_simp
    have q2_w2 : w2.cell? ⟨w.heap.size, 2, none⟩ = some (.int .i64 wa) := by rw [k_w2 _ _ (by first | omega | (simp; done) | (simp; omega))]; go_simp
    have q3_w2 : w2.cell? ⟨w.heap.size, 3, none⟩ = some (.int .i64 ri) := by rw [k_w2 _ _ (by first | omega | (simp; done) | (simp; omega))]; go_simp
    have q4_w2 : w2.cell? ⟨w.heap.size, 4, none⟩ = some (.int .i64 ba) := by rw [k_w2 _ _ (by first | omega | (simp; done) | (simp; omega))]; go_simp
    have q5_w2 : w2.cell? ⟨w.heap.size, 5, none⟩ = some (.int .i64 bs) := by rw [k_w2 _ _ (by first | omega | (simp; done) | (simp; omega))]; go_simp
    have q6_w2 : w2.cell? ⟨w.heap.size, 6, none⟩ = some (.int .i64 cn) := by rw [k_w2 _ _ (by first | omega | (simp; done) | (simp; omega))]; go_simp
    have q7_w2 : w2.cell? ⟨w.heap.size, 7, none⟩ = some (.int .i64 il) := by rw [k_w2 _ _ (by first | omega | (simp; done) | (simp; omega))]; go_simp
    have q8_w2 : w2.cell? ⟨w.heap.size, 8, none⟩ = some (.int .i64 qu) := by rw [k_w2 _ _ (by first | omega | (simp; done) | (simp; omega))]; go_simp
    have q9_w2 : w2.cell? ⟨w.heap.size, 9, none⟩ = some (.int .i64 fa) := by rw [k_w2 _ _ (by first | omega | (simp; done) | (simp; omega))]; go_simp
    have q10_w2 : w2.cell? ⟨w.heap.size, 10, none⟩ = some (.bool dr) := by rw [k_w2 _ _ (by first | omega | (simp; done) | (simp; omega))]; go_simp
    have q11_w2 : w2.cell? ⟨w1.heap.size, 0, none⟩ = some (.int .i64 lo) := by rw [k_w2 _ _ (by first | omega | (simp; done) | (simp; omega))]; go_simp
    have q12_w2 : w2.cell? ⟨w1.heap.size, 1, none⟩ = some (.int .i64 hi) := by rw [k_w2 _ _ (by first | omega | (simp; done) | (simp; omega))]; go_simp
    have q13_w2 : w2.cell? ⟨w1.heap.size, 2, none⟩ = some (.int .i64 wa) := by rw [k_w2 _ _ (by first | omega | (simp; done) | (simp; omega))]; go_simp
    have q14_w2 : w2.cell? ⟨w1.heap.size, 3, none⟩ = some (.int .i64 ri) := by rw [k_w2 _ _ (by first | omega | (simp; done) | (simp; omega))]; go_simp
    have q15_w2 : w2.cell? ⟨w1.heap.size, 4, none⟩ = some (.int .i64 ba) := by rw [k_w2 _ _ (by first | omega | (simp; done) | (simp; omega))]; go_simp
    have q16_w2 : w2.cell? ⟨w1.heap.size, 5, none⟩ = some (.int .i64 bs') := by rw [k_w2 _ _ (by first | omega | (simp; done) | (simp; omega))]; go_simp
    have q17_w2 : w2.cell? ⟨w1.heap.size, 6, none⟩ = some (.int .i64 cn') := by rw [k_w2 _ _ (by first | omega | (simp; done) | (simp; omega))]; go_simp
    have q18_w2 : w2.cell? ⟨w1.heap.size, 7, none⟩ = some (.int .i64 il) := by rw [k_w2 _ _ (by first | omega | (simp; done) | (simp; omega))]; go_simp
    have q19_w2 : w2.cell? ⟨w1.heap.size, 8, none⟩ = some (.int .i64 qu') := by rw [k_w2 _ _ (by first | omega | (simp; done) | (simp; omega))]; go_simp
    have q20_w2 : w2.cell? ⟨w1.heap.size, 9, none⟩ = some (.int .i64 fa') := by rw [k_w2 _ _ (by first | omega | (simp; done) | (simp; omega))]; go_simp
    have q21_w2 : w2.cell? ⟨w1.heap.size, 10, none⟩ = some (.bool dr) := by rw [k_w2 _ _ (by first | omega | (simp; done) | (simp; omega))]; go_simp
    have X_w2 := Lib.hid (show Ext w w2 from Ext.trans (by (repeat' (with_reducible first | refine Ext.drew ?_ | refine Ext.drewN ?_ _ | refine Ext.alloc ?_ _ | exact Ext.refl _ | exact X_w1.out | (refine Ext.setCell ?_ ?_ _; rotate_left; (focus ((try simp); try omega)))))) x_w2)
    clear x_w2 s_w2
    go_wp2_with fail
    refine (c3.out _).mono ?_; rintro e w3 ⟨rfl, x_w3⟩
    obtain ⟨k_w3, f_w3⟩ := bcell x_w3
    have s_w3 := x_w3.size; (try simp at s_w3)
    have z0_w3 : w.heap.size < w3.heap.size := by omega
    have z1_w3 : w1.heap.size < w3.heap.size := by omega
    have q0_w3 : w3.cell? ⟨w.heap.size, 0, none⟩ = some (.int .i64 lo) := by rw [k_w3 _ _ (by first | omega | (simp; done) | (simp; omega))]; go_simp
    have q1_w3 : w3.cell? ⟨w.heap.size, 1, none⟩ = some (.int .i64 hi) := by rw [k_w3 _ _ (by first | omega | (simp; done) | (simp; omega))]; go_simp
    have q2_w3 : w3.cell? ⟨w.heap.size, 2, none⟩ = some (.int .i64 wa) := by rw [k_w3 _ _ (by first | omega | (simp; done) | (simp; omega))]; go_simp
    have q3_w3 : w3.cell? ⟨w.heap.size, 3, none⟩ = some (.int .i64 ri) := by rw [k_w3 _ _ (by first | omega | (simp; done) | (simp; omega))]; go_simp
    have q4_w3 : w3.cell? ⟨w.heap.size, 4, none⟩ = some (.int .i64 ba) := by rw [k_w3 _ _ (by first | omega | (simp; done) | (simp; omega))]; go_simp
    have q5_w3 : w3.cell? ⟨w.heap.size, 5, none⟩ = some (.int .i64 bs) := by rw [k_w3 _ _ (by first | omega | (simp; done) | (simp; omega))]; go_simp
    have q6_w3 : w3.cell? ⟨w.heap.size, 6, none⟩ = some (.int .i64 cn) := by rw [k_w3 _ _ (by first | omega | (simp; done) | (simp; omega))]; go_simp
    have q7_w3 : w3.cell? ⟨w.heap.size, 7, none⟩ = some (.int .i64 il) := by rw [k_w3 _ _ (by first | omega | (simp; done) | (simp; omega))]; go_simp
    have q8_w3 : w3.cell? ⟨w.heap.size, 8, none⟩ = some (.int .i64 qu) := by rw [k_w3 _ _ (by first | omega | (simp; done) | (simp; omega))]; go_simp
    have q9_w3 : w3.cell? ⟨w.heap.size, 9, none⟩ = some (.int .i64 fa) := by rw [k_w3 _ _ (by first | omega | (simp; done) | (simp; omega))]; go_simp
    have q10_w3 : w3.cell? ⟨w.heap.size, 10, none⟩ = some (.bool dr) := by rw [k_w3 _ _ (by first | omega | (simp; done) | (simp; omega))]; go_simp
    have q11_w3 : w3.cell? ⟨w1.heap.size, 0, none⟩ = some (.int .i64 lo) := by rw [k_w3 _ _ (by first | omega | (simp; done) | (simp; omega))]; go_simp
    have q12_w3 : w3.cell? ⟨w1.heap.size, 1, none⟩ = some (.int .i64 hi) := by rw [k_w3 _ _ (by first | omega | (simp; done) | (simp; omega))]; go_simp
    have q13_w3 : w3.cell? ⟨w1.heap.size, 2, none⟩ = some (.int .i64 wa) := by rw [k_w3 _ _ (by first | omega | (simp; done) | (simp; omega))]; go_simp
    have q14_w3 : w3.cell? ⟨w1.heap.size, 3, none⟩ = some (.int .i64 ri) := by rw [k_w3 _ _ (by first | omega | (simp; done) | (simp; omega))]; go_simp
    have q15_w3 : w3.cell? ⟨w1.heap.size, 4, none⟩ = some (.int .i64 ba) := by rw [k_w3 _ _ (by first | omega | (simp; done) | (simp; omega))]; go_simp
    have q16_w3 : w3.cell? ⟨w1.heap.size, 5, none⟩ = some (.int .i64 bs') := by rw [k_w3 _ _ (by first | omega | (simp; done) | (simp; omega))]; go_simp
    have q17_w3 : w3.cell? ⟨w1.heap.size, 6, none⟩ = some (.int .i64 cn') := by rw [k_w3 _ _ (by first | omega | (simp; done) | (simp; omega))]; go_simp
    have q18_w3 : w3.cell? ⟨w1.heap.size, 7, none⟩ = some (.int .i64 il) := by rw [k_w3 _ _ (by first | omega | (simp; done) | (simp; omega))]; go_simp
    have q19_w3 : w3.cell? ⟨w1.heap.size, 8, none⟩ = some (.int .i64 qu') := by rw [k_w3 _ _ (by first | omega | (simp; done) | (simp; omega))]; go_simp
    have q20_w3 : w3.cell? ⟨w1.heap.size, 9, none⟩ = some (.int .i64 fa') := by rw [k_w3 _ _ (by first | omega | (simp; done) | (simp; omega))]; go_simp
    have q21_w3 : w3.cell? ⟨w1.heap.size, 10, none⟩ = some (.bool dr) := by rw [k_w3 _ _ (by first | omega | (simp; done) | (simp; omega))]; go_simp
    have X_w3 := Lib.hid (show Ext w w3 from Ext.trans (by (repeat' (with_reducible first | refine Ext.drew ?_ | refine Ext.drewN ?_ _ | refine Ext.alloc ?_ _ | exact Ext.refl _ | exact X_w2.out | exact X_w1.out | (refine Ext.setCell ?_ ?_ _; rotate_left; (focus ((try simp); try omega)))))) x_w3)
    clear x_w3 s_w3
    go_wp2_with fail
    refine (c4.out _).mono ?_; rintro e w4 ⟨rfl, x_w4⟩
    obtain ⟨k_w4, f_w4⟩ := bcell x_w4
    have s_w4 := x_w4.size; (try simp at s_w4)
    have z0_w4 : w.heap.size < w4.heap.size := by omega
    have z1_w4 : w1.heap.size < w4.heap.size := by omega
    have q0_w4 : w4.cell? ⟨w.heap.size, 0, none⟩ = some (.int .i64 lo) := by rw [k_w4 _ _ (by first | omega | (simp; done) | (simp; omega))]; go_simp
    have q1_w4 : w4.cell? ⟨w.heap.size, 1, none⟩ = some (.int .i64 hi) := by rw [k_w4 _ _ (by first | omega | (simp; done) | (simp; omega))]; go_simp
    have q2_w4 : w4.cell? ⟨w.heap.size, 2, none⟩ = some (.int .i64 wa) := by rw [k_w4 _ _ (by first | omega | (simp; done) | (simp; omega))]; go_simp
    have q3_w4 : w4.cell? ⟨w.heap.size, 3, none⟩ = some (.int .i64 ri) := by rw [k_w4 _ _ (by first | omega | (simp; done) | (simp; omega))]; go_simp
    have q4_w4 : w4.cell? ⟨w.heap.size, 4, none⟩ = some (.int .i64 ba) := by rw [k_w4 _ _ (by first | omega | (simp; done) | (simp; omega))]; go_simp
    have q5_w4 : w4.cell? ⟨w.heap.size, 5, none⟩ = some (.int .i64 bs) := by rw [k_w4 _ _ (by first | omega | (simp; done) | (simp; omega))]; go_simp
    have q6_w4 : w4.cell? ⟨w.heap.size, 6, none⟩ = some (.int .i64 cn) := by rw [k_w4 _ _ (by first | omega | (simp; done) | (simp; omega))]; go_simp
    have q7_w4 : w4.cell? ⟨w.heap.size, 7, none⟩ = some (.int .i64 il) := by rw [k_w4 _ _ (by first | omega | (simp; done) | (simp; omega))]; go_simp
    have q8_w4 : w4.cell? ⟨w.heap.size, 8, none⟩ = some (.int .i64 qu) := by rw [k_w4 _ _ (by first | omega | (simp; done) | (simp; omega))]; go_simp
    have q9_w4 : w4.cell? ⟨w.heap.size, 9, none⟩ = some (.int .i64 fa) := by rw [k_w4 _ _ (by first | omega | (simp; done) | (simp; omega))]; go_simp
    have q10_w4 : w4.cell? ⟨w.heap.size, 10, none⟩ = some (.bool dr) := by rw [k_w4 _ _ (by first | omega | (simp; done) | (simp; omega))]; go_simp
    have q11_w4 : w4.cell? ⟨w1.heap.size, 0, none⟩ = some (.int .i64 lo) := by rw [k_w4 _ _ (by first | omega | (simp; done) | (simp; omega))]; go_simp
    have q12_w4 : w4.cell? ⟨w1.heap.size, 1, none⟩ = some (.int .i64 hi) := by rw [k_w4 _ _ (by first | omega | (simp; done) | (simp; omega))]; go_simp
    have q13_w4 : w4.cell? ⟨w1.heap.size, 2, none⟩ = some (.int .i64 wa) := by rw [k_w4 _ _ (by first | omega | (simp; done) | (simp; omega))]; go_simp
    have q14_w4 : w4.cell? ⟨w1.heap.size, 3, none⟩ = some (.int .i64 ri) := by rw [k_w4 _ _ (by first | omega | (simp; done) | (simp; omega))]; go_simp
    have q15_w4 : w4.cell? ⟨w1.heap.size, 4, none⟩ = some (.int .i64 ba) := by rw [k_w4 _ _ (by first | omega | (simp; done) | (simp; omega))]; go_simp
    have q16_w4 : w4.cell? ⟨w1.heap.size, 5, none⟩ = some (.int .i64 bs') := by rw [k_w4 _ _ (by first | omega | (simp; done) | (simp; omega))]; go_simp
    have q17_w4 : w4.cell? ⟨w1.heap.size, 6, none⟩ = some (.int .i64 cn') := by rw [k_w4 _ _ (by first | omega | (simp; done) | (simp; omega))]; go_simp
    have q18_w4 : w4.cell? ⟨w1.heap.size, 7, none⟩ = some (.int .i64 il) := by rw [k_w4 _ _ (by first | omega | (simp; done) | (simp; omega))]; go_simp
    have q19_w4 : w4.cell? ⟨w1.heap.size, 8, none⟩ = some (.int .i64 qu') := by rw [k_w4 _ _ (by first | omega | (simp; done) | (simp; omega))]; go_simp
    have q20_w4 : w4.cell? ⟨w1.heap.size, 9, none⟩ = some (.int .i64 fa') := by rw [k_w4 _ _ (by first | omega | (simp; done) | (simp; omega))]; go_simp
    have q21_w4 : w4.cell? ⟨w1.heap.size, 10, none⟩ = some (.bool dr) := by rw [k_w4 _ _ (by first | omega | (simp; done) | (simp; omega))]; go_simp
    have X_w4 := Lib.hid (show Ext w w4 from Ext.trans (by (repeat' (with_reducible first | refine Ext.drew ?_ | refine Ext.drewN ?_ _ | refine Ext.alloc ?_ _ | exact Ext.refl _ | exact X_w3.out | exact X_w2.out | exact X_w1.out | (refine Ext.setCell ?_ ?_ _; rotate_left; (focus ((try simp); try omega)))))) x_w4)
    clear x_w4 s_w4
    go_wp2_with fail
    refine (c7.out _).mono ?_; rintro e w5 ⟨rfl, x_w5⟩
    obtain ⟨k_w5, f_w5⟩ := bcell x_w5
    have s_w5 := x_w5.size; (try simp at s_w5)
    have z0_w5 : w.heap.size < w5.heap.size := by omega
    have z1_w5 : w1.heap.size < w5.heap.size := by omega
    have q0_w5 : w5.cell? ⟨w.heap.size, 0, none⟩ = some (.int .i64 lo) := by rw [k_w5 _ _ (by first | omega | (simp; done) | (simp; omega))]; go_simp
    have q1_w5 : w5.cell? ⟨w.heap.size, 1, none⟩ = some (.int .i64 hi) := by rw [k_w5 _ _ (by first | omega | (simp; done) | (simp; omega))]; go_simp
    have q2_w5 : w5.cell? ⟨w.heap.size, 2, none⟩ = some (.int .i64 wa) := by rw [k_w5 _ _ (by first | omega | (simp; done) | (simp; omega))]; go_simp
    have q3_w5 : w5.cell? ⟨w.heap.size, 3, none⟩ = some (.int .i64 ri) := by rw [k_w5 _ _ (by first | omega | (simp; done) | (simp; omega))]; go_simp
    have q4_w5 : w5.cell? ⟨w.heap.size, 4, none⟩ = some (.int .i64 ba) := by rw [k_w5 _ _ (by first | omega | (simp; done) | (simp; omega))]; go_simp
    have q5_w5 : w5.cell? ⟨w.heap.size, 5, none⟩ = some (.int .i64 bs) := by rw [k_w5 _ _ (by first | omega | (simp; done) | (simp; omega))]; go_simp
    have q6_w5 : w5.cell? ⟨w.heap.size, 6, none⟩ = some (.int .i64 cn) := by rw [k_w5 _ _ (by first | omega | (simp; done) | (simp; omega))]; go_simp
    have q7_w5 : w5.cell? ⟨w.heap.size, 7, none⟩ = some (.int .i64 il) := by rw [k_w5 _ _ (by first | omega | (simp; done) | (simp; omega))]; go_simp
    have q8_w5 : w5.cell? ⟨w.heap.size, 8, none⟩ = some (.int .i64 qu) := by rw [k_w5 _ _ (by first | omega | (simp; done) | (simp; omega))]; go_simp
    have q9_w5 : w5.cell? ⟨w.heap.size, 9, none⟩ = some (.int .i64 fa) := by rw [k_w5 _ _ (by first | omega | (simp; done) | (simp; omega))]; go_simp
    have q10_w5 : w5.cell? ⟨w.heap.size, 10, none⟩ = some (.bool dr) := by rw [k_w5 _ _ (by first | omega | (simp; done) | (simp; omega))]; go_simp
    have q11_w5 : w5.cell? ⟨w1.heap.size, 0, none⟩ = some (.int .i64 lo) := by rw [k_w5 _ _ (by first | omega | (simp; done) | (simp; omega))]; go_simp
    have q12_w5 : w5.cell? ⟨w1.heap.size, 1, none⟩ = some (.int .i64 hi) := by rw [k_w5 _ _ (by first | omega | (simp; done) | (simp; omega))]; go_simp
    have q13_w5 : w5.cell? ⟨w1.heap.size, 2, none⟩ = some (.int .i64 wa) := by rw [k_w5 _ _ (by first | omega | (simp; done) | (simp; omega))]; go_simp
    have q14_w5 : w5.cell? ⟨w1.heap.size, 3, none⟩ = some (.int .i64 ri) := by rw [k_w5 _ _ (by first | omega | (simp; done) | (simp; omega))]; go_simp
    have q15_w5 : w5.cell? ⟨w1.heap.size, 4, none⟩ = some (.int .i64 ba) := by rw [k_w5 _ _ (by first | omega | (simp; done) | (simp; omega))]; go_simp
    have q16_w5 : w5.cell? ⟨w1.heap.size, 5, none⟩ = some (.int .i64 bs') := by rw [k_w5 _ _ (by first | omega | (simp; done) | (simp; omega))]; go_simp
    have q17_w5 : w5.cell? ⟨w1.heap.size, 6, none⟩ = some (.int .i64 cn') := by rw [k_w5 _ _ (by first | omega | (simp; done) | (simp; omega))]; go_simp
    have q18_w5 : w5.cell? ⟨w1.heap.size, 7, none⟩ = some (.int .i64 il) := by rw [k_w5 _ _ (by first | omega | (simp; done) | (simp; omega))]; go_simp
    have q19_w5 : w5.cell? ⟨w1.heap.size, 8, none⟩ = some (.int .i64 qu') := by rw [k_w5 _ _ (by first | omega | (simp; done) | (simp; omega))]; go_simp
    have q20_w5 : w5.cell? ⟨w1.heap.size, 9, none⟩ = some (.int .i64 fa') := by rw [k_w5 _ _ (by first | omega | (simp; done) | (simp; omega))]; go_simp
    have q21_w5 : w5.cell? ⟨w1.heap.size, 10, none⟩ = some (.bool dr) := by rw [k_w5 _ _ (by first | omega | (simp; done) | (simp; omega))]; go_simp
    have X_w5 := Lib.hid (show Ext w w5 from Ext.trans (by (repeat' (with_reducible first | refine Ext.drew ?_ | refine Ext.drewN ?_ _ | refine Ext.alloc ?_ _ | exact Ext.refl _ | exact X_w4.out | exact X_w3.out | exact X_w2.out | exact X_w1.out | (refine Ext.setCell ?_ ?_ _; rotate_left; (focus ((try simp); try omega)))))) x_w5)
    clear x_w5 s_w5
    go_wp2_with fail
    refine (c5.out _).mono ?_; rintro e w6 ⟨rfl, x_w6⟩
    obtain ⟨k_w6, f_w6⟩ := bcell x_w6
    have s_w6 := x_w6.size; (try simp at s_w6)
    have z0_w6 : w.heap.size < w6.heap.size := by omega
    have z1_w6 : w1.heap.size < w6.heap.size := by omega
    have q0_w6 : w6.cell? ⟨w.heap.size, 0, none⟩ = some (.int .i64 lo) := by rw [k_w6 _ _ (by first | omega | (simp; done) | (simp; omega))]; go_simp
    have q1_w6 : w6.cell? ⟨w.heap.size, 1, none⟩ = some (.int .i64 hi) := by rw [k_w6 _ _ (by first | omega | (simp; done) | (simp; omega))]; go_simp
    have q2_w6 : w6.cell? ⟨w.heap.size, 2, none⟩ = some (.int .i64 wa) := by rw [k_w6 _ _ (by first | omega | (simp; done) | (simp; omega))]; go_simp
    have q3_w6 : w6.cell? ⟨w.heap.size, 3, none⟩ = some (.int .i64 ri) := by rw [k_w6 _ _ (by first | omega | (simp; done) | (simp; omega))]; go_simp
    have q4_w6 : w6.cell? ⟨w.heap.size, 4, none⟩ = some (.int .i64 ba) := by rw [k_w6 _ _ (by first | omega | (simp; done) | (simp; omega))]; go_simp
    have q5_w6 : w6.cell? ⟨w.heap.size, 5, none⟩ = some (.int .i64 bs) := by rw [k_w6 _ _ (by first | omega | (simp; done) | (simp; omega))]; go_simp
    have q6_w6 : w6.cell? ⟨w.heap.size, 6, none⟩ = some (.int .i64 cn) := by rw [k_w6 _ _ (by first | omega | (simp; done) | (simp; omega))]; go_simp
    have q7_w6 : w6.cell? ⟨w.heap.size, 7, none⟩ = some (.int .i64 il) := by rw [k_w6 _ _ (by first | omega | (simp; done) | (simp; omega))]; go_simp
    have q8_w6 : w6.cell? ⟨w.heap.size, 8, none⟩ = some (.int .i64 qu) := by rw [k_w6 _ _ (by first | omega | (simp; done) | (simp; omega))]; go_simp
    have q9_w6 : w6.cell? ⟨w.heap.size, 9, none⟩ = some (.int .i64 fa) := by rw [k_w6 _ _ (by first | omega | (simp; done) | (simp; omega))]; go_simp
    have q10_w6 : w6.cell? ⟨w.heap.size, 10, none⟩ = some (.bool dr) := by rw [k_w6 _ _ (by first | omega | (simp; done) | (simp; omega))]; go_simp
    have q11_w6 : w6.cell? ⟨w1.heap.size, 0, none⟩ = some (.int .i64 lo) := by rw [k_w6 _ _ (by first | omega | (simp; done) | (simp; omega))]; go_simp
    have q12_w6 : w6.cell? ⟨w1.heap.size, 1, none⟩ = some (.int .i64 hi) := by rw [k_w6 _ _ (by first | omega | (simp; done) | (simp; omega))]; go_simp
    have q13_w6 : w6.cell? ⟨w1.heap.size, 2, none⟩ = some (.int .i64 wa) := by rw [k_w6 _ _ (by first | omega | (simp; done) | (simp; omega))]; go_simp
    have q14_w6 : w6.cell? ⟨w1.heap.size, 3, none⟩ = some (.int .i64 ri) := by rw [k_w6 _ _ (by first | omega | (simp; done) | (simp; omega))]; go_simp
    have q15_w6 : w6.cell? ⟨w1.heap.size, 4, none⟩ = some (.int .i64 ba) := by rw [k_w6 _ _ (by first | omega | (simp; done) | (simp; omega))]; go_simp
    have q16_w6 : w6.cell? ⟨w1.heap.size, 5, none⟩ = some (.int .i64 bs') := by rw [k_w6 _ _ (by first | omega | (simp; done) | (simp; omega))]; go_simp
    have q17_w6 : w6.cell? ⟨w1.heap.size, 6, none⟩ = some (.int .i64 cn') := by rw [k_w6 _ _ (by first | omega | (simp; done) | (simp; omega))]; go_simp
    have q18_w6 : w6.cell? ⟨w1.heap.size, 7, none⟩ = some (.int .i64 il) := by rw [k_w6 _ _ (by first | omega | (simp; done) | (simp; omega))]; go_simp
    have q19_w6 : w6.cell? ⟨w1.heap.size, 8, none⟩ = some (.int .i64 qu') := by rw [k_w6 _ _ (by first | omega | (simp; done) | (simp; omega))]; go_simp
    have q20_w6 : w6.cell? ⟨w1.heap.size, 9, none⟩ = some (.int .i64 fa') := by rw [k_w6 _ _ (by first | omega | (simp; done) | (simp; omega))]; go_simp
    have q21_w6 : w6.cell? ⟨w1.heap.size, 10, none⟩ = some (.bool dr) := by rw [k_w6 _ _ (by first | omega | (simp; done) | (simp; omega))]; go_simp
    have X_w6 := Lib.hid (show Ext w w6 from Ext.trans (by (repeat' (with_reducible first | refine Ext.drew ?_ | refine Ext.drewN ?_ _ | refine Ext.alloc ?_ _ | exact Ext.refl _ | exact X_w5.out | exact X_w4.out | exact X_w3.out | exact X_w2.out | exact X_w1.out | (refine Ext.setCell ?_ ?_ _; rotate_left; (focus ((try simp); try omega)))))) x_w6)
    clear x_w6 s_w6
    go_wp2_with fail
    refine (c8.out _).mono ?_; rintro e w7 ⟨rfl, x_w7⟩
    obtain ⟨k_w7, f_w7⟩ := bcell x_w7
    have s_w7 := x_w7.size; (try simp at s_w7)
    have z0_w7 : w.heap.size < w7.heap.size := by omega
    have z1_w7 : w1.heap.size < w7.heap.size := by omega
    have q0_w7 : w7.cell? ⟨w.heap.size, 0, none⟩ = some (.int .i64 lo) := by rw [k_w7 _ _ (by first | omega | (simp; done) | (simp; omega))]; go_simp
    have q1_w7 : w7.cell? ⟨w.heap.size, 1, none⟩ = some (.int .i64 hi) := by rw [k_w7 _ _ (by first | omega | (simp; done) | (simp; omega))]; go_simp
    have q2_w7 : w7.cell? ⟨w.heap.size, 2, none⟩ = some (.int .i64 wa) := by rw [k_w7 _ _ (by first | omega | (simp; done) | (simp; omega))]; go_simp
    have q3_w7 : w7.cell? ⟨w.heap.size, 3, none⟩ = some (.int .i64 ri) := by rw [k_w7 _ _ (by first | omega | (simp; done) | (simp; omega))]; go_simp
    have q4_w7 : w7.cell? ⟨w.heap.size, 4, none⟩ = some (.int .i64 ba) := by rw [k_w7 _ _ (by first | omega | (simp; done) | (simp; omega))]; go_simp
    have q5_w7 : w7.cell? ⟨w.heap.size, 5, none⟩ = some (.int .i64 bs) := by rw [k_w7 _ _ (by first | omega | (simp; done) | (simp; omega))]; go_simp
    have q6_w7 : w7.cell? ⟨w.heap.size, 6, none⟩ = some (.int .i64 cn) := by rw [k_w7 _ _ (by first | omega | (simp; done) | (simp; omega))]; go_simp
    have q7_w7 : w7.cell? ⟨w.heap.size, 7, none⟩ = some (.int .i64 il) := by rw [k_w7 _ _ (by first | omega | (simp; done) | (simp; omega))]; go_simp
    have q8_w7 : w7.cell? ⟨w.heap.size, 8, none⟩ = some (.int .i64 qu) := by rw [k_w7 _ _ (by first | omega | (simp; done) | (simp; omega))]; go_simp
    have q9_w7 : w7.cell? ⟨w.heap.size, 9, none⟩ = some (.int .i64 fa) := by rw [k_w7 _ _ (by first | omega | (simp; done) | (simp; omega))]; go_simp
    have q10_w7 : w7.cell? ⟨w.heap.size, 10, none⟩ = some (.bool dr) := by rw [k_w7 _ _ (by first | omega | (simp; done) | (simp; omega))]; go_simp
    have q11_w7 : w7.cell? ⟨w1.heap.size, 0, none⟩ = some (.int .i64 lo) := by rw [k_w7 _ _ (by first | omega | (simp; done) | (simp; omega))]; go_simp
    have q12_w7 : w7.cell? ⟨w1.heap.size, 1, none⟩ = some (.int .i64 hi) := by rw [k_w7 _ _ (by first | omega | (simp; done) | (simp; omega))]; go_simp
    have q13_w7 : w7.cell? ⟨w1.heap.size, 2, none⟩ = some (.int .i64 wa) := by rw [k_w7 _ _ (by first | omega | (simp; done) | (simp; omega))]; go_simp
    have q14_w7 : w7.cell? ⟨w1.heap.size, 3, none⟩ = some (.int .i64 ri) := by rw [k_w7 _ _ (by first | omega | (simp; done) | (simp; omega))]; go_simp
    have q15_w7 : w7.cell? ⟨w1.heap.size, 4, none⟩ = some (.int .i64 ba) := by rw [k_w7 _ _ (by first | omega | (simp; done) | (simp; omega))]; go_simp
    have q16_w7 : w7.cell? ⟨w1.heap.size, 5, none⟩ = some (.int .i64 bs') := by rw [k_w7 _ _ (by first | omega | (simp; done) | (simp; omega))]; go_simp
    have q17_w7 : w7.cell? ⟨w1.heap.size, 6, none⟩ = some (.int .i64 cn') := by rw [k_w7 _ _ (by first | omega | (simp; done) | (simp; omega))]; go_simp
    have q18_w7 : w7.cell? ⟨w1.heap.size, 7, none⟩ = some (.int .i64 il) := by rw [k_w7 _ _ (by first | omega | (simp; done) | (simp; omega))]; go_simp
    have q19_w7 : w7.cell? ⟨w1.heap.size, 8, none⟩ = some (.int .i64 qu') := by rw [k_w7 _ _ (by first | omega | (simp; done) | (simp; omega))]; go_simp
    have q20_w7 : w7.cell? ⟨w1.heap.size, 9, none⟩ = some (.int .i64 fa') := by rw [k_w7 _ _ (by first | omega | (simp; done) | (simp; omega))]; go_simp
    have q21_w7 : w7.cell? ⟨w1.heap.size, 10, none⟩ = some (.bool dr) := by rw [k_w7 _ _ (by first | omega | (simp; done) | (simp; omega))]; go_simp
    have X_w7 := Lib.hid (show Ext w w7 from Ext.trans (by (repeat' (with_reducible first | refine Ext.drew ?_ | refine Ext.drewN ?_ _ | refine Ext.alloc ?_ _ | exact Ext.refl _ | exact X_w6.out | exact X_w5.out | exact X_w4.out | exact X_w3.out | exact X_w2.out | exact X_w1.out | (refine Ext.setCell ?_ ?_ _; rotate_left; (focus ((try simp); try omega)))))) x_w7)
    clear x_w7 s_w7
    go_wp2_with fail
    refine (c6.out _).mono ?_; rintro e w8 ⟨rfl, x_w8⟩
    obtain ⟨k_w8, f_w8⟩ := bcell x_w8
    have s_w8 := x_w8.size; (try simp at s_w8)
    have z0_w8 : w.heap.size < w8.heap.size := by omega
    have z1_w8 : w1.heap.size < w8.heap.size := by omega
    have q0_w8 : w8.cell? ⟨w.heap.size, 0, none⟩ = some (.int .i64 lo) := by rw [k_w8 _ _ (by first | omega | (simp; done) | (simp; omega))]; go_simp
    have q1_w8 : w8.cell? ⟨w.heap.size, 1, none⟩ = some (.int .i64 hi) := by rw [k_w8 _ _ (by first | omega | (simp; done) | (simp; omega))]; go_simp
    have q2_w8 : w8.cell? ⟨w.heap.size, 2, none⟩ = some (.int .i64 wa) := by rw [k_w8 _ _ (by first | omega | (simp; done) | (simp; omega))]; go_simp
    have q3_w8 : w8.cell? ⟨w.heap.size, 3, none⟩ = some (.int .i64 ri) := by rw [k_w8 _ _ (by first | omega | (simp; done) | (simp; omega))]; go_simp
    have q4_w8 : w8.cell? ⟨w.heap.size, 4, none⟩ = some (.int .i64 ba) := by rw [k_w8 _ _ (by first | omega | (simp; done) | (simp; omega))]; go_simp
    have q5_w8 : w8.cell? ⟨w.heap.size, 5, none⟩ = some (.int .i64 bs) := by rw [k_w8 _ _ (by first | omega | (simp; done) | (simp; omega))]; go_simp
    have q6_w8 : w8.cell? ⟨w.heap.size, 6, none⟩ = some (.int .i64 cn) := by rw [k_w8 _ _ (by first | omega | (simp; done) | (simp; omega))]; go_simp
    have q7_w8 : w8.cell? ⟨w.heap.size, 7, none⟩ = some (.int .i64 il) := by rw [k_w8 _ _ (by first | omega | (simp; done) | (simp; omega))]; go_simp
    have q8_w8 : w8.cell? ⟨w.heap.size, 8, none⟩ = some (.int .i64 qu) := by rw [k_w8 _ _ (by first | omega | (simp; done) | (simp; omega))]; go_simp
    have q9_w8 : w8.cell? ⟨w.heap.size, 9, none⟩ = some (.int .i64 fa) := by rw [k_w8 _ _ (by first | omega | (simp; done) | (simp; omega))]; go_simp
    have q10_w8 : w8.cell? ⟨w.heap.size, 10, none⟩ = some (.bool dr) := by rw [k_w8 _ _ (by first | omega | (simp; done) | (simp; omega))]; go_simp
    have q11_w8 : w8.cell? ⟨w1.heap.size, 0, none⟩ = some (.int .i64 lo) := by rw [k_w8 _ _ (by first | omega | (simp; done) | (simp; omega))]; go_simp
    have q12_w8 : w8.cell? ⟨w1.heap.size, 1, none⟩ = some (.int .i64 hi) := by rw [k_w8 _ _ (by first | omega | (simp; done) | (simp; omega))]; go_simp
    have q13_w8 : w8.cell? ⟨w1.heap.size, 2, none⟩ = some (.int .i64 wa) := by rw [k_w8 _ _ (by first | omega | (simp; done) | (simp; omega))]; go_simp
    have q14_w8 : w8.cell? ⟨w1.heap.size, 3, none⟩ = some (.int .i64 ri) := by rw [k_w8 _ _ (by first | omega | (simp; done) | (simp; omega))]; go_simp
    have q15_w8 : w8.cell? ⟨w1.heap.size, 4, none⟩ = some (.int .i64 ba) := by rw [k_w8 _ _ (by first | omega | (simp; done) | (simp; omega))]; go_simp
    have q16_w8 : w8.cell? ⟨w1.heap.size, 5, none⟩ = some (.int .i64 bs') := by rw [k_w8 _ _ (by first | omega | (simp; done) | (simp; omega))]; go_simp
    have q17_w8 : w8.cell? ⟨w1.heap.size, 6, none⟩ = some (.int .i64 cn') := by rw [k_w8 _ _ (by first | omega | (simp; done) | (simp; omega))]; go_simp
    have q18_w8 : w8.cell? ⟨w1.heap.size, 7, none⟩ = some (.int .i64 il) := by rw [k_w8 _ _ (by first | omega | (simp; done) | (simp; omega))]; go_simp
    have q19_w8 : w8.cell? ⟨w1.heap.size, 8, none⟩ = some (.int .i64 qu') := by rw [k_w8 _ _ (by first | omega | (simp; done) | (simp; omega))]; go_simp
    have q20_w8 : w8.cell? ⟨w1.heap.size, 9, none⟩ = some (.int .i64 fa') := by rw [k_w8 _ _ (by first | omega | (simp; done) | (simp; omega))]; go_simp
    have q21_w8 : w8.cell? ⟨w1.heap.size, 10, none⟩ = some (.bool dr) := by rw [k_w8 _ _ (by first | omega | (simp; done) | (simp; omega))]; go_simp
    have X_w8 := Lib.hid (show Ext w w8 from Ext.trans (by (repeat' (with_reducible first | refine Ext.drew ?_ | refine Ext.drewN ?_ _ | refine Ext.alloc ?_ _ | exact Ext.refl _ | exact X_w7.out | exact X_w6.out | exact X_w5.out | exact X_w4.out | exact X_w3.out | exact X_w2.out | exact X_w1.out | (refine Ext.setCell ?_ ?_ _; rotate_left; (focus ((try simp); try omega)))))) x_w8)
    clear x_w8 s_w8
    go_wp2_with fail
    refine (c9.out _).mono ?_; rintro e w9 ⟨rfl, x_w9⟩
    obtain ⟨k_w9, f_w9⟩ := bcell x_w9
    have s_w9 := x_w9.size; (try simp at s_w9)
    have z0_w9 : w.heap.size < w9.heap.size := by omega
    have z1_w9 : w1.heap.size < w9.heap.size := by omega
    have q0_w9 : w9.cell? ⟨w.heap.size, 0, none⟩ = some (.int .i64 lo) := by rw [k_w9 _ _ (by first | omega | (simp; done) | (simp; omega))]; go_simp
    have q1_w9 : w9.cell? ⟨w.heap.size, 1, none⟩ = some (.int .i64 hi) := by rw [k_w9 _ _ (by first | omega | (simp; done) | (simp; omega))]; go_simp
    have q2_w9 : w9.cell? ⟨w.heap.size, 2, none⟩ = some (.int .i64 wa) := by rw [k_w9 _ _ (by first | omega | (simp; done) | (simp; omega))]; go_simp
    have q3_w9 : w9.cell? ⟨w.heap.size, 3, none⟩ = some (.int .i64 ri) := by rw [k_w9 _ _ (by first | omega | (simp; done) | (simp; omega))]; go_simp
    have q4_w9 : w9.cell? ⟨w.heap.size, 4, none⟩ = some (.int .i64 ba) := by rw [k_w9 _ _ (by first | omega | (simp; done) | (simp; omega))]; go_simp
    have q5_w9 : w9.cell? ⟨w.heap.size, 5, none⟩ = some (.int .i64 bs) := by rw [k_w9 _ _ (by first | omega | (simp; done) | (simp; omega))]; go_simp
    have q6_w9 : w9.cell? ⟨w.heap.size, 6, none⟩ = some (.int .i64 cn) := by rw [k_w9 _ _ (by first | omega | (simp; done) | (simp; omega))]; go_simp
    have q7_w9 : w9.cell? ⟨w.heap.size, 7, none⟩ = some (.int .i64 il) := by rw [k_w9 _ _ (by first | omega | (simp; done) | (simp; omega))]; go_simp
    have q8_w9 : w9.cell? ⟨w.heap.size, 8, none⟩ = some (.int .i64 qu) := by rw [k_w9 _ _ (by first | omega | (simp; done) | (simp; omega))]; go_simp
    have q9_w9 : w9.cell? ⟨w.heap.size, 9, none⟩ = some (.int .i64 fa) := by rw [k_w9 _ _ (by first | omega | (simp; done) | (simp; omega))]; go_simp
    have q10_w9 : w9.cell? ⟨w.heap.size, 10, none⟩ = some (.bool dr) := by rw [k_w9 _ _ (by first | omega | (simp; done) | (simp; omega))]; go_simp
    have q11_w9 : w9.cell? ⟨w1.heap.size, 0, none⟩ = some (.int .i64 lo) := by rw [k_w9 _ _ (by first | omega | (simp; done) | (simp; omega))]; go_simp
    have q12_w9 : w9.cell? ⟨w1.heap.size, 1, none⟩ = some (.int .i64 hi) := by rw [k_w9 _ _ (by first | omega | (simp; done) | (simp; omega))]; go_simp
    have q13_w9 : w9.cell? ⟨w1.heap.size, 2, none⟩ = some (.int .i64 wa) := by rw [k_w9 _ _ (by first | omega | (simp; done) | (simp; omega))]; go_simp
    have q14_w9 : w9.cell? ⟨w1.heap.size, 3, none⟩ = some (.int .i64 ri) := by rw [k_w9 _ _ (by first | omega | (simp; done) | (simp; omega))]; go_simp
    have q15_w9 : w9.cell? ⟨w1.heap.size, 4, none⟩ = some (.int .i64 ba) := by rw [k_w9 _ _ (by first | omega | (simp; done) | (simp; omega))]; go_simp
    have q16_w9 : w9.cell? ⟨w1.heap.size, 5, none⟩ = some (.int .i64 bs') := by rw [k_w9 _ _ (by first | omega | (simp; done) | (simp; omega))]; go_simp
    have q17_w9 : w9.cell? ⟨w1.heap.size, 6, none⟩ = some (.int .i64 cn') := by rw [k_w9 _ _ (by first | omega | (simp; done) | (simp; omega))]; go_simp
    have q18_w9 : w9.cell? ⟨w1.heap.size, 7, none⟩ = some (.int .i64 il) := by rw [k_w9 _ _ (by first | omega | (simp; done) | (simp; omega))]; go_simp
    have q19_w9 : w9.cell? ⟨w1.heap.size, 8, none⟩ = some (.int .i64 qu') := by rw [k_w9 _ _ (by first | omega | (simp; done) | (simp; omega))]; go_simp
    have q20_w9 : w9.cell? ⟨w1.heap.size, 9, none⟩ = some (.int .i64 fa') := by rw [k_w9 _ _ (by first | omega | (simp; done) | (simp; omega))]; go_simp
    have q21_w9 : w9.cell? ⟨w1.heap.size, 10, none⟩ = some (.bool dr) := by rw [k_w9 _ _ (by first | omega | (simp; done) | (simp; omega))]; go_simp
    have X_w9 := Lib.hid (show Ext w w9 from Ext.trans (by (repeat' (with_reducible first | refine Ext.drew ?_ | refine Ext.drewN ?_ _ | refine Ext.alloc ?_ _ | exact Ext.refl _ | exact X_w8.out | exact X_w7.out | exact X_w6.out | exact X_w5.out | exact X_w4.out | exact X_w3.out | exact X_w2.out | exact X_w1.out | (refine Ext.setCell ?_ ?_ _; rotate_left; (focus ((try simp); try omega)))))) x_w9)
    clear x_w9 s_w9
    go_wp2_with fail
    refine (a0.out _).mono ?_; rintro e w10 ⟨rfl, x_w10⟩
    obtain ⟨k_w10, f_w10⟩ := bcell x_w10
    have s_w10 := x_w10.size; (try simp at s_w10)
    have z0_w10 : w.heap.size < w10.heap.size := by omega
    have z1_w10 : w1.heap.size < w10.heap.size := by omega
    have q0_w10 : w10.cell? ⟨w.heap.size, 0, none⟩ = some (.int .i64 lo) := by rw [k_w10 _ _ (by first | omega | (simp; done) | (simp; omega))]; go_simp
    have q1_w10 : w10.cell? ⟨w.heap.size, 1, none⟩ = some (.int .i64 hi) := by rw [k_w10 _ _ (by first | omega | (simp; done) | (simp; omega))]; go_simp
    have q2_w10 : w10.cell? ⟨w.heap.size, 2, none⟩ = some (.int .i64 wa) := by rw [k_w10 _ _ (by first | omega | (simp; done) | (simp; omega))]; go_simp
    have q3_w10 : w10.cell? ⟨w.heap.size, 3, none⟩ = some (.int .i64 ri) := by rw [k_w10 _ _ (by first | omega | (simp; done) | (simp; omega))]; go_simp
    have q4_w10 : w10.cell? ⟨w.heap.size, 4, none⟩ = some (.int .i64 ba) := by rw [k_w10 _ _ (by first | omega | (simp; done) | (simp; omega))]; go_simp
    have q5_w10 : w10.cell? ⟨w.heap.size, 5, none⟩ = some (.int .i64 bs) := by rw [k_w10 _ _ (by first | omega | (simp; done) | (simp; omega))]; go_simp
    have q6_w10 : w10.cell? ⟨w.heap.size, 6, none⟩ = some (.int .i64 cn) := by rw [k_w10 _ _ (by first | omega | (simp; done) | (simp; omega))]; go_simp
    have q7_w10 : w10.cell? ⟨w.heap.size, 7, none⟩ = some (.int .i64 il) := by rw [k_w10 _ _ (by first | omega | (simp; done) | (simp; omega))]; go_simp
    have q8_w10 : w10.cell? ⟨w.heap.size, 8, none⟩ = some (.int .i64 qu) := by rw [k_w10 _ _ (by first | omega | (simp; done) | (simp; omega))]; go_simp
    have q9_w10 : w10.cell? ⟨w.heap.size, 9, none⟩ = some (.int .i64 fa) := by rw [k_w10 _ _ (by first | omega | (simp; done) | (simp; omega))]; go_simp
    have q10_w10 : w10.cell? ⟨w.heap.size, 10, none⟩ = some (.bool dr) := by rw [k_w10 _ _ (by first | omega | (simp; done) | (simp; omega))]; go_simp
    have q11_w10 : w10.cell? ⟨w1.heap.size, 0, none⟩ = some (.int .i64 lo) := by rw [k_w10 _ _ (by first | omega | (simp; done) | (simp; omega))]; go_simp
    have q12_w10 : w10.cell? ⟨w1.heap.size, 1, none⟩ = some (.int .i64 hi) := by rw [k_w10 _ _ (by first | omega | (simp; done) | (simp; omega))]; go_simp
    have q13_w10 : w10.cell? ⟨w1.heap.size, 2, none⟩ = some (.int .i64 wa) := by rw [k_w10 _ _ (by first | omega | (simp; done) | (simp; omega))]; go_simp
    have q14_w10 : w10.cell? ⟨w1.heap.size, 3, none⟩ = some (.int .i64 ri) := by rw [k_w10 _ _ (by first | omega | (simp; done) | (simp; omega))]; go_simp
    have q15_w10 : w10.cell? ⟨w1.heap.size, 4, none⟩ = some (.int .i64 ba) := by rw [k_w10 _ _ (by first | omega | (simp; done) | (simp; omega))]; go_simp
    have q16_w10 : w10.cell? ⟨w1.heap.size, 5, none⟩ = some (.int .i64 bs') := by rw [k_w10 _ _ (by first | omega | (simp; done) | (simp; omega))]; go_simp
    have q17_w10 : w10.cell? ⟨w1.heap.size, 6, none⟩ = some (.int .i64 cn') := by rw [k_w10 _ _ (by first | omega | (simp; done) | (simp; omega))]; go_simp
    have q18_w10 : w10.cell? ⟨w1.heap.size, 7, none⟩ = some (.int .i64 il) := by rw [k_w10 _ _ (by first | omega | (simp; done) | (simp; omega))]; go_simp
    have q19_w10 : w10.cell? ⟨w1.heap.size, 8, none⟩ = some (.int .i64 qu') := by rw [k_w10 _ _ (by first | omega | (simp; done) | (simp; omega))]; go_simp
    have q20_w10 : w10.cell? ⟨w1.heap.size, 9, none⟩ = some (.int .i64 fa') := by rw [k_w10 _ _ (by first | omega | (simp; done) | (simp; omega))]; go_simp
    have q21_w10 : w10.cell? ⟨w1.heap.size, 10, none⟩ = some (.bool dr) := by rw [k_w10 _ _ (by first | omega | (simp; done) | (simp; omega))]; go_simp
    have X_w10 := Lib.hid (show Ext w w10 from Ext.trans (by (repeat' (with_reducible first | refine Ext.drew ?_ | refine Ext.drewN ?_ _ | refine Ext.alloc ?_ _ | exact Ext.refl _ | exact X_w9.out | exact X_w8.out | exact X_w7.out | exact X_w6.out | exact X_w5.out | exact X_w4.out | exact X_w3.out | exact X_w2.out | exact X_w1.out | (refine Ext.setCell ?_ ?_ _; rotate_left; (focus ((try simp); try omega)))))) x_w10)
    clear x_w10 s_w10
    go_wp2_with fail
    refine (cz.out _).mono ?_; rintro e w11 ⟨rfl, x_w11⟩
    obtain ⟨k_w11, f_w11⟩ := bcell x_w11
    have s_w11 := x_w11.size; (try simp at s_w11)
    have z0_w11 : w.heap.size < w11.heap.size := by omega
    have z1_w11 : w1.heap.size < w11.heap.size := by omega
    have q0_w11 : w11.cell? ⟨w.heap.size, 0, none⟩ = some (.int .i64 lo) := by rw [k_w11 _ _ (by first | omega | (simp; done) | (simp; omega))]; go_simp
    have q1_w11 : w11.cell? ⟨w.heap.size, 1, none⟩ = some (.int .i64 hi) := by rw [k_w11 _ _ (by first | omega | (simp; done) | (simp; omega))]; go_simp
    have q2_w11 : w11.cell? ⟨w.heap.size, 2, none⟩ = some (.int .i64 wa) := by rw [k_w11 _ _ (by first | omega | (simp; done) | (simp; omega))]; go_simp
    have q3_w11 : w11.cell? ⟨w.heap.size, 3, none⟩ = some (.int .i64 ri) := by rw [k_w11 _ _ (by first | omega | (simp; done) | (simp; omega))]; go_simp
    have q4_w11 : w11.cell? ⟨w.heap.size, 4, none⟩ = some (.int .i64 ba) := by rw [k_w11 _ _ (by first | omega | (simp; done) | (simp; omega))]; go_simp
    have q5_w11 : w11.cell? ⟨w.heap.size, 5, none⟩ = some (.int .i64 bs) := by rw [k_w11 _ _ (by first | omega | (simp; done) | (simp; omega))]; go_simp
    have q6_w11 : w11.cell? ⟨w.heap.size, 6, none⟩ = some (.int .i64 cn) := by rw [k_w11 _ _ (by first | omega | (simp; done) | (simp; omega))]; go_simp
    have q7_w11 : w11.cell? ⟨w.heap.size, 7, none⟩ = some (.int .i64 il) := by rw [k_w11 _ _ (by first | omega | (simp; done) | (simp; omega))]; go_simp
    have q8_w11 : w11.cell? ⟨w.heap.size, 8, none⟩ = some (.int .i64 qu) := by rw [k_w11 _ _ (by first | omega | (simp; done) | (simp; omega))]; go_simp
    have q9_w11 : w11.cell? ⟨w.heap.size, 9, none⟩ = some (.int .i64 fa) := by rw [k_w11 _ _ (by first | omega | (simp; done) | (simp; omega))]; go_simp
    have q10_w11 : w11.cell? ⟨w.heap.size, 10, none⟩ = some (.bool dr) := by rw [k_w11 _ _ (by first | omega | (simp; done) | (simp; omega))]; go_simp
    have q11_w11 : w11.cell? ⟨w1.heap.size, 0, none⟩ = some (.int .i64 lo) := by rw [k_w11 _ _ (by first | omega | (simp; done) | (simp; omega))]; go_simp
    have q12_w11 : w11.cell? ⟨w1.heap.size, 1, none⟩ = some (.int .i64 hi) := by rw [k_w11 _ _ (by first | omega | (simp; done) | (simp; omega))]; go_simp
    have q13_w11 : w11.cell? ⟨w1.heap.size, 2, none⟩ = some (.int .i64 wa) := by rw [k_w11 _ _ (by first | omega | (simp; done) | (simp; omega))]; go_simp
    have q14_w11 : w11.cell? ⟨w1.heap.size, 3, none⟩ = some (.int .i64 ri) := by rw [k_w11 _ _ (by first | omega | (simp; done) | (simp; omega))]; go_simp
    have q15_w11 : w11.cell? ⟨w1.heap.size, 4, none⟩ = some (.int .i64 ba) := by rw [k_w11 _ _ (by first | omega | (simp; done) | (simp; omega))]; go_simp
    have q16_w11 : w11.cell? ⟨w1.heap.size, 5, none⟩ = some (.int .i64 bs') := by rw [k_w11 _ _ (by first | omega | (simp; done) | (simp; omega))]; go_simp
    have q17_w11 : w11.cell? ⟨w1.heap.size, 6, none⟩ = some (.int .i64 cn') := by rw [k_w11 _ _ (by first | omega | (simp; done) | (simp; omega))]; go_simp
    have q18_w11 : w11.cell? ⟨w1.heap.size, 7, none⟩ = some (.int .i64 il) := by rw [k_w11 _ _ (by first | omega | (simp; done) | (simp; omega))]; go_simp
    have q19_w11 : w11.cell? ⟨w1.heap.size, 8, none⟩ = some (.int .i64 qu') := by rw [k_w11 _ _ (by first | omega | (simp; done) | (simp; omega))]; go_simp
    have q20_w11 : w11.cell? ⟨w1.heap.size, 9, none⟩ = some (.int .i64 fa') := by rw [k_w11 _ _ (by first | omega | (simp; done) | (simp; omega))]; go_simp
    have q21_w11 : w11.cell? ⟨w1.heap.size, 10, none⟩ = some (.bool dr) := by rw [k_w11 _ _ (by first | omega | (simp; done) | (simp; omega))]; go_simp
    have X_w11 := Lib.hid (show Ext w w11 from Ext.trans (by (repeat' (with_reducible first | refine Ext.drew ?_ | refine Ext.drewN ?_ _ | refine Ext.alloc ?_ _ | exact Ext.refl _ | exact X_w10.out | exact X_w9.out | exact X_w8.out | exact X_w7.out | exact X_w6.out | exact X_w5.out | exact X_w4.out | exact X_w3.out | exact X_w2.out | exact X_w1.out | (refine Ext.setCell ?_ ?_ _; rotate_left; (focus ((try simp); try omega)))))) x_w11)
    clear x_w11 s_w11
    go_wp2_with fail
    refine (ka.out _).mono ?_; rintro e v1 ⟨rfl, x_v1⟩
    obtain ⟨k_v1, f_v1⟩ := bcell x_v1
    have X_v1 := Lib.hid (show Ext w v1 from Ext.trans (by (repeat' (with_reducible first | refine Ext.drew ?_ | refine Ext.drewN ?_ _ | refine Ext.alloc ?_ _ | exact Ext.refl _ | exact X_w11.out | exact X_w10.out | exact X_w9.out | exact X_w8.out | exact X_w7.out | exact X_w6.out | exact X_w5.out | exact X_w4.out | exact X_w3.out | exact X_w2.out | exact X_w1.out | (refine Ext.setCell ?_ ?_ _; rotate_left; (focus ((try simp); try omega)))))) x_v1)
    clear x_v1
    go_wp2_with fail
    go_ret
    exact ⟨rfl, by (repeat' (with_reducible first | refine Ext.drew ?_ | refine Ext.drewN ?_ _ | refine Ext.alloc ?_ _ | exact Ext.refl _ | exact X_v1.out | exact X_w11.out | exact X_w10.out | exact X_w9.out | exact X_w8.out | exact X_w7.out | exact X_w6.out | exact X_w5.out | exact X_w4.out | exact X_w3.out | exact X_w2.out | exact X_w1.out | (refine Ext.setCell ?_ ?_ _; rotate_left; (focus ((try simp); try omega)))))⟩
theorem law_GuardStays (lo hi wa ri ba bs cn il qu fa : Int) (dr : Bool) (r t d : Int) (w : World) : Calls Try.prog 10 #[.agg #[.int .i64 lo, .int .i64 hi, .int .i64 wa, .int .i64 ri, .int .i64 ba, .int .i64 bs, .int .i64 cn, .int .i64 il, .int .i64 qu, .int .i64 fa, .bool dr], .int .i64 r, .int .i64 t, .int .i64 d] w fun e w' => e = .returned (.bool true) ∧ Ext w w' := by
  by_cases hv : GVal lo hi wa ri ba bs cn il qu fa
  · exact law_GuardStays_yes lo hi wa ri ba bs cn il qu fa dr r t d hv w
  · exact law_GuardStays_no lo hi wa ri ba bs cn il qu fa dr r t d hv w
end Go.Proofs.Ytnmjikaojoaaaaa

