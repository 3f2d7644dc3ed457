/-
  Contracts of package guard and of the document's own answers: Step.
-/
import Derived.Test.YtnmjikaojoaaaaaGuA
import Derived.Test.YtnmjikaojoaaaaaSto
namespace Go.Proofs.Ytnmjikaojoaaaaa
open Go.RowKit
/-- What Step changes: Base, Count, Quiet, Fault; and the duty. -/
def gst (lo hi wa ri ba bs cn il qu fa : Int) (dr : Bool) (r t d : Int) : Int × Int × Int × Int × Int :=
  if GVal lo hi wa ri ba bs cn il qu fa ∧ fa = 0 then
    if r < lo then (bs, cn, qu, 1, 0) else if hi < r then (bs, cn, qu, 2, 0)
    else if il ≤ qu + 1 then (r, 0, il, 0, 0)
    else if dr = true then (r, 0, qu + 1, 0, 0)
    else if max 0 (min d 255) = 0 ∨ max (-1073741824) (min t 1073741824) - ba ≤ r then (r, 0, qu + 1, 0, max 0 (min d 255))
    else if bs + ri ≤ r then (if wa ≤ 1 then (r, wa, qu + 1, 3, 0) else (r, 1, qu + 1, 0, max 0 (min d 255)))
    else if wa ≤ cn + 1 then (bs, wa, qu + 1, 3, 0) else (bs, cn + 1, qu + 1, 0, max 0 (min d 255))
  else (bs, cn, qu, fa, 0)
theorem gbnd {lo hi wa ri ba bs cn il qu fa : Int} (h : GVal lo hi wa ri ba bs cn il qu fa) : -1073741824 ≤ lo ∧ hi ≤ 1073741824 ∧ -1073741824 ≤ bs ∧ bs ≤ 1073741824 ∧ 1 ≤ wa ∧ wa ≤ 1048576 ∧ 0 ≤ cn ∧ cn ≤ wa ∧ 1 ≤ ri ∧ ri ≤ 400000 ∧ 0 ≤ ba ∧ ba ≤ 400000 ∧ 1 ≤ il ∧ il ≤ 1048576 ∧ 0 ≤ qu ∧ qu ≤ il := by
  unfold GVal at h; omega
theorem guard_rebased (lo hi wa ri ba bs cn il qu fa r : Int) (dr : Bool) (w : World) : Calls Try.prog 51 #[.agg #[.int .i64 lo, .int .i64 hi, .int .i64 wa, .int .i64 ri, .int .i64 ba, .int .i64 bs, .int .i64 cn, .int .i64 il, .int .i64 qu, .int .i64 fa, .bool dr], .int .i64 r] w fun e w' => e = .returned (.agg #[.int .i64 lo, .int .i64 hi, .int .i64 wa, .int .i64 ri, .int .i64 ba, .int .i64 r, .int .i64 0, .int .i64 il, .int .i64 qu, .int .i64 fa, .bool dr]) ∧ Ext w w' := by
  go_enter Try.func51, Try.ntmps51
  go_wp2_with fail
  exact bodyPost_ret (v := .agg #[.int .i64 lo, .int .i64 hi, .int .i64 wa, .int .i64 ri, .int .i64 ba, .int .i64 r, .int .i64 0, .int .i64 il, .int .i64 qu, .int .i64 fa, .bool dr]) (by simp [results, Try.results51, go_sem, *]) rfl ⟨rfl, by (repeat' (with_reducible first | refine Ext.drew ?_ | refine Ext.drewN ?_ _ | refine Ext.alloc ?_ _ | exact Ext.refl _ | fail | (refine Ext.setCell ?_ ?_ _; rotate_left; (focus ((try simp); try omega)))))⟩
set_option maxHeartbeats 4000000 in
theorem guard_watch_rise_no (lo hi wa ri ba bs cn il qu r d : Int) (dr : Bool) (b0 : -2000000000 ≤ bs ∧ bs ≤ 2000000000) (b1 : 1 ≤ ri ∧ ri ≤ 400000) (b2 : 0 ≤ cn ∧ cn ≤ 1048576) (h4 : bs + ri ≤ r) (h5 : wa ≤ 1) (w : World) :
    Calls Try.prog 53 #[.agg #[.int .i64 lo, .int .i64 hi, .int .i64 wa, .int .i64 ri, .int .i64 ba, .int .i64 bs, .int .i64 cn, .int .i64 il, .int .i64 qu, .int .i64 0, .bool dr], .int .i64 r, .int .i64 d] w fun e w' => e = .returned (.tuple #[.agg #[.int .i64 lo, .int .i64 hi, .int .i64 wa, .int .i64 ri, .int .i64 ba, .int .i64 r, .int .i64 wa, .int .i64 il, .int .i64 qu, .int .i64 3, .bool dr], .int .i64 0]) ∧ Ext w w' := by
  have q1 : IntKind.i64.wrap (bs + ri) = bs + ri := IntWalk.i64_in _ (by omega)
  have q2 : IntKind.i64.wrap (cn + 1) = cn + 1 := IntWalk.i64_in _ (by omega)
  have d1 := dle_t h4
  have d2 := dle_t h5
  clear b0 b1 b2 h4 h5
  have rm := Lib.hid fun w1 (x : Ext ((w.alloc (.cells #[.int .i64 lo, .int .i64 hi, .int .i64 wa, .int .i64 ri, .int .i64 ba, .int .i64 bs, .int .i64 cn, .int .i64 il, .int .i64 qu, .int .i64 0, .bool dr] 41)).alloc (.cells #[.int .i64 0, .int .i64 0, .int .i64 0, .int .i64 0, .int .i64 0, .int .i64 0, .int .i64 0, .int .i64 0, .int .i64 0, .int .i64 0, .bool false] 41)) w1) => ((Room.new w #[.int .i64 lo, .int .i64 hi, .int .i64 wa, .int .i64 ri, .int .i64 ba, .int .i64 bs, .int .i64 cn, .int .i64 il, .int .i64 qu, .int .i64 0, .bool dr] 41).alloc (Nat.zero_lt_succ _) (.cells #[.int .i64 0, .int .i64 0, .int .i64 0, .int .i64 0, .int .i64 0, .int .i64 0, .int .i64 0, .int .i64 0, .int .i64 0, .int .i64 0, .bool false] 41)).ext x (Nat.zero_lt_succ _)
  have rn := Lib.hid fun w1 (x : Ext ((w.alloc (.cells #[.int .i64 lo, .int .i64 hi, .int .i64 wa, .int .i64 ri, .int .i64 ba, .int .i64 bs, .int .i64 cn, .int .i64 il, .int .i64 qu, .int .i64 0, .bool dr] 41)).alloc (.cells #[.int .i64 0, .int .i64 0, .int .i64 0, .int .i64 0, .int .i64 0, .int .i64 0, .int .i64 0, .int .i64 0, .int .i64 0, .int .i64 0, .bool false] 41)) w1) => (Room.new (w.alloc (.cells #[.int .i64 lo, .int .i64 hi, .int .i64 wa, .int .i64 ri, .int .i64 ba, .int .i64 bs, .int .i64 cn, .int .i64 il, .int .i64 qu, .int .i64 0, .bool dr] 41)) #[.int .i64 0, .int .i64 0, .int .i64 0, .int .i64 0, .int .i64 0, .int .i64 0, .int .i64 0, .int .i64 0, .int .i64 0, .int .i64 0, .bool false] 41).ext x (Nat.zero_lt_succ _)
  go_enter Try.func53, Try.ntmps53
  go_wp2_with fail
  refine (guard_rebased lo hi wa ri ba bs cn il qu 0 r dr _).mono ?_; rintro e w3 ⟨rfl, x_w3⟩
  have R3 := Lib.hid (rm.out w3 x_w3)
  have R4 := Lib.hid (show Room w3 (w.heap.size + 1) 11 from by simpa using rn.out w3 x_w3)
  have X_w3 := Lib.hid (show Ext w w3 from (((Ext.refl w).alloc _).alloc _).trans x_w3)
  clear x_w3 rm rn
  go_wp2_with (refine stop_store (ty := 41) rfl ?_)
  refine ⟨?_⟩
  refine wpList_store_agg rfl _ _ _ rfl (w.heap.size) #[.int .i64 lo, .int .i64 hi, .int .i64 wa, .int .i64 ri, .int .i64 ba, .int .i64 r, .int .i64 0, .int .i64 il, .int .i64 qu, .int .i64 0, .bool dr] rfl rfl (by kernel_rfl) (by kernel_rfl) (R3.out) (fun W HS_W => ?_)
  have X_W := Lib.hid (HS_W.ext w (by (repeat' (with_reducible first | refine Ext.drew ?_ | refine Ext.drewN ?_ _ | refine Ext.alloc ?_ _ | exact Ext.refl _ | exact X_w3.out | (refine Ext.setCell ?_ ?_ _; rotate_left; (focus ((try simp); try omega)))))) (by first | exact Nat.le_refl _ | omega | (simp; done) | (simp; omega)))
  have q0_W : W.cell? ⟨w.heap.size, 0, none⟩ = some (.int .i64 lo) := HS_W.at' 0 _ rfl
  have q1_W : W.cell? ⟨w.heap.size, 1, none⟩ = some (.int .i64 hi) := HS_W.at' 1 _ rfl
  have q2_W : W.cell? ⟨w.heap.size, 2, none⟩ = some (.int .i64 wa) := HS_W.at' 2 _ rfl
  have q3_W : W.cell? ⟨w.heap.size, 3, none⟩ = some (.int .i64 ri) := HS_W.at' 3 _ rfl
  have q4_W : W.cell? ⟨w.heap.size, 4, none⟩ = some (.int .i64 ba) := HS_W.at' 4 _ rfl
  have q5_W : W.cell? ⟨w.heap.size, 5, none⟩ = some (.int .i64 r) := HS_W.at' 5 _ rfl
  have q6_W : W.cell? ⟨w.heap.size, 6, none⟩ = some (.int .i64 0) := HS_W.at' 6 _ rfl
  have q7_W : W.cell? ⟨w.heap.size, 7, none⟩ = some (.int .i64 il) := HS_W.at' 7 _ rfl
  have q8_W : W.cell? ⟨w.heap.size, 8, none⟩ = some (.int .i64 qu) := HS_W.at' 8 _ rfl
  have q9_W : W.cell? ⟨w.heap.size, 9, none⟩ = some (.int .i64 0) := HS_W.at' 9 _ rfl
  have q10_W : W.cell? ⟨w.heap.size, 10, none⟩ = some (.bool dr) := HS_W.at' 10 _ rfl
  have RM_W := Lib.hid (HS_W.room (R3.out) (Nat.le_refl _))
  have fz_W : ∀ o, W.frozen? ⟨w.heap.size, o, none⟩ = false := RM_W.out.2
  have z_W : w.heap.size < W.heap.size := cell_lt q0_W
  have ST_W := Lib.hid HS_W
  clear HS_W
  go_wp2_with (refine stop_store (ty := 41) rfl ?_)
  refine ⟨?_⟩
  refine wpList_store_agg rfl _ _ _ rfl (w.heap.size + 1) #[.int .i64 lo, .int .i64 hi, .int .i64 wa, .int .i64 ri, .int .i64 ba, .int .i64 r, .int .i64 wa, .int .i64 il, .int .i64 qu, .int .i64 3, .bool dr] rfl rfl (by kernel_rfl) (by kernel_rfl) (((ST_W.out.other R4.out (by omega)).set _ _).set _ _) (fun W2 HS_W2 => ?_)
  have X_W2 := Lib.hid (HS_W2.ext w (by (repeat' (with_reducible first | refine Ext.drew ?_ | refine Ext.drewN ?_ _ | refine Ext.alloc ?_ _ | exact Ext.refl _ | exact X_W.out | exact X_w3.out | (refine Ext.setCell ?_ ?_ _; rotate_left; (focus ((try simp); try omega)))))) (by first | exact Nat.le_refl _ | omega | (simp; done) | (simp; omega)))
  have q0_W2 : W2.cell? ⟨w.heap.size + 1, 0, none⟩ = some (.int .i64 lo) := HS_W2.at' 0 _ rfl
  have q1_W2 : W2.cell? ⟨w.heap.size + 1, 1, none⟩ = some (.int .i64 hi) := HS_W2.at' 1 _ rfl
  have q2_W2 : W2.cell? ⟨w.heap.size + 1, 2, none⟩ = some (.int .i64 wa) := HS_W2.at' 2 _ rfl
  have q3_W2 : W2.cell? ⟨w.heap.size + 1, 3, none⟩ = some (.int .i64 ri) := HS_W2.at' 3 _ rfl
  have q4_W2 : W2.cell? ⟨w.heap.size + 1, 4, none⟩ = some (.int .i64 ba) := HS_W2.at' 4 _ rfl
  have q5_W2 : W2.cell? ⟨w.heap.size + 1, 5, none⟩ = some (.int .i64 r) := HS_W2.at' 5 _ rfl
  have q6_W2 : W2.cell? ⟨w.heap.size + 1, 6, none⟩ = some (.int .i64 wa) := HS_W2.at' 6 _ rfl
  have q7_W2 : W2.cell? ⟨w.heap.size + 1, 7, none⟩ = some (.int .i64 il) := HS_W2.at' 7 _ rfl
  have q8_W2 : W2.cell? ⟨w.heap.size + 1, 8, none⟩ = some (.int .i64 qu) := HS_W2.at' 8 _ rfl
  have q9_W2 : W2.cell? ⟨w.heap.size + 1, 9, none⟩ = some (.int .i64 3) := HS_W2.at' 9 _ rfl
  have q10_W2 : W2.cell? ⟨w.heap.size + 1, 10, none⟩ = some (.bool dr) := HS_W2.at' 10 _ rfl
  have RM_W2 := Lib.hid (HS_W2.room (((ST_W.out.other R4.out (by omega)).set _ _).set _ _) (Nat.le_refl _))
  have fz_W2 : ∀ o, W2.frozen? ⟨w.heap.size + 1, o, none⟩ = false := RM_W2.out.2
  have z_W2 : w.heap.size + 1 < W2.heap.size := cell_lt q0_W2
  have ST_W2 := Lib.hid HS_W2
  clear HS_W2
  go_wp2_with fail
  exact bodyPost_ret (v := .tuple #[.agg #[.int .i64 lo, .int .i64 hi, .int .i64 wa, .int .i64 ri, .int .i64 ba, .int .i64 r, .int .i64 wa, .int .i64 il, .int .i64 qu, .int .i64 3, .bool dr], .int .i64 0]) (by simp [results, Try.results53, go_sem, *]) rfl ⟨rfl, by (repeat' (with_reducible first | refine Ext.drew ?_ | refine Ext.drewN ?_ _ | refine Ext.alloc ?_ _ | exact Ext.refl _ | exact X_W2.out | exact X_W.out | exact X_w3.out | (refine Ext.setCell ?_ ?_ _; rotate_left; (focus ((try simp); try omega)))))⟩
set_option maxHeartbeats 4000000 in
theorem guard_watch_rise (lo hi wa ri ba bs cn il qu r d : Int) (dr : Bool) (b0 : -2000000000 ≤ bs ∧ bs ≤ 2000000000) (b1 : 1 ≤ ri ∧ ri ≤ 400000) (b2 : 0 ≤ cn ∧ cn ≤ 1048576) (h4 : bs + ri ≤ r) (h5 : 1 < wa) (w : World) :
    Calls Try.prog 53 #[.agg #[.int .i64 lo, .int .i64 hi, .int .i64 wa, .int .i64 ri, .int .i64 ba, .int .i64 bs, .int .i64 cn, .int .i64 il, .int .i64 qu, .int .i64 0, .bool dr], .int .i64 r, .int .i64 d] w fun e w' => e = .returned (.tuple #[.agg #[.int .i64 lo, .int .i64 hi, .int .i64 wa, .int .i64 ri, .int .i64 ba, .int .i64 r, .int .i64 1, .int .i64 il, .int .i64 qu, .int .i64 0, .bool dr], .int .i64 d]) ∧ Ext w w' := by
  have q1 : IntKind.i64.wrap (bs + ri) = bs + ri := IntWalk.i64_in _ (by omega)
  have q2 : IntKind.i64.wrap (cn + 1) = cn + 1 := IntWalk.i64_in _ (by omega)
  have d1 := dle_t h4
  have d2 := dle_f h5
  clear b0 b1 b2 h4 h5
  have rm := Lib.hid fun w1 (x : Ext ((w.alloc (.cells #[.int .i64 lo, .int .i64 hi, .int .i64 wa, .int .i64 ri, .int .i64 ba, .int .i64 bs, .int .i64 cn, .int .i64 il, .int .i64 qu, .int .i64 0, .bool dr] 41)).alloc (.cells #[.int .i64 0, .int .i64 0, .int .i64 0, .int .i64 0, .int .i64 0, .int .i64 0, .int .i64 0, .int .i64 0, .int .i64 0, .int .i64 0, .bool false] 41)) w1) => ((Room.new w #[.int .i64 lo, .int .i64 hi, .int .i64 wa, .int .i64 ri, .int .i64 ba, .int .i64 bs, .int .i64 cn, .int .i64 il, .int .i64 qu, .int .i64 0, .bool dr] 41).alloc (Nat.zero_lt_succ _) (.cells #[.int .i64 0, .int .i64 0, .int .i64 0, .int .i64 0, .int .i64 0, .int .i64 0, .int .i64 0, .int .i64 0, .int .i64 0, .int .i64 0, .bool false] 41)).ext x (Nat.zero_lt_succ _)
  have rn := Lib.hid fun w1 (x : Ext ((w.alloc (.cells #[.int .i64 lo, .int .i64 hi, .int .i64 wa, .int .i64 ri, .int .i64 ba, .int .i64 bs, .int .i64 cn, .int .i64 il, .int .i64 qu, .int .i64 0, .bool dr] 41)).alloc (.cells #[.int .i64 0, .int .i64 0, .int .i64 0, .int .i64 0, .int .i64 0, .int .i64 0, .int .i64 0, .int .i64 0, .int .i64 0, .int .i64 0, .bool false] 41)) w1) => (Room.new (w.alloc (.cells #[.int .i64 lo, .int .i64 hi, .int .i64 wa, .int .i64 ri, .int .i64 ba, .int .i64 bs, .int .i64 cn, .int .i64 il, .int .i64 qu, .int .i64 0, .bool dr] 41)) #[.int .i64 0, .int .i64 0, .int .i64 0, .int .i64 0, .int .i64 0, .int .i64 0, .int .i64 0, .int .i64 0, .int .i64 0, .int .i64 0, .bool false] 41).ext x (Nat.zero_lt_succ _)
  go_enter Try.func53, Try.ntmps53
  go_wp2_with fail
  refine (guard_rebased lo hi wa ri ba bs cn il qu 0 r dr _).mono ?_; rintro e w3 ⟨rfl, x_w3⟩
  have R3 := Lib.hid (rm.out w3 x_w3)
  have R4 := Lib.hid (show Room w3 (w.heap.size + 1) 11 from by simpa using rn.out w3 x_w3)
  have X_w3 := Lib.hid (show Ext w w3 from (((Ext.refl w).alloc _).alloc _).trans x_w3)
  clear x_w3 rm rn
  go_wp2_with (refine stop_store (ty := 41) rfl ?_)
  refine ⟨?_⟩
  refine wpList_store_agg rfl _ _ _ rfl (w.heap.size) #[.int .i64 lo, .int .i64 hi, .int .i64 wa, .int .i64 ri, .int .i64 ba, .int .i64 r, .int .i64 0, .int .i64 il, .int .i64 qu, .int .i64 0, .bool dr] rfl rfl (by kernel_rfl) (by kernel_rfl) (R3.out) (fun W HS_W => ?_)
  have X_W := Lib.hid (HS_W.ext w (by (repeat' (with_reducible first | refine Ext.drew ?_ | refine Ext.drewN ?_ _ | refine Ext.alloc ?_ _ | exact Ext.refl _ | exact X_w3.out | (refine Ext.setCell ?_ ?_ _; rotate_left; (focus ((try simp); try omega)))))) (by first | exact Nat.le_refl _ | omega | (simp; done) | (simp; omega)))
  have q0_W : W.cell? ⟨w.heap.size, 0, none⟩ = some (.int .i64 lo) := HS_W.at' 0 _ rfl
  have q1_W : W.cell? ⟨w.heap.size, 1, none⟩ = some (.int .i64 hi) := HS_W.at' 1 _ rfl
  have q2_W : W.cell? ⟨w.heap.size, 2, none⟩ = some (.int .i64 wa) := HS_W.at' 2 _ rfl
  have q3_W : W.cell? ⟨w.heap.size, 3, none⟩ = some (.int .i64 ri) := HS_W.at' 3 _ rfl
  have q4_W : W.cell? ⟨w.heap.size, 4, none⟩ = some (.int .i64 ba) := HS_W.at' 4 _ rfl
  have q5_W : W.cell? ⟨w.heap.size, 5, none⟩ = some (.int .i64 r) := HS_W.at' 5 _ rfl
  have q6_W : W.cell? ⟨w.heap.size, 6, none⟩ = some (.int .i64 0) := HS_W.at' 6 _ rfl
  have q7_W : W.cell? ⟨w.heap.size, 7, none⟩ = some (.int .i64 il) := HS_W.at' 7 _ rfl
  have q8_W : W.cell? ⟨w.heap.size, 8, none⟩ = some (.int .i64 qu) := HS_W.at' 8 _ rfl
  have q9_W : W.cell? ⟨w.heap.size, 9, none⟩ = some (.int .i64 0) := HS_W.at' 9 _ rfl
  have q10_W : W.cell? ⟨w.heap.size, 10, none⟩ = some (.bool dr) := HS_W.at' 10 _ rfl
  have RM_W := Lib.hid (HS_W.room (R3.out) (Nat.le_refl _))
  have fz_W : ∀ o, W.frozen? ⟨w.heap.size, o, none⟩ = false := RM_W.out.2
  have z_W : w.heap.size < W.heap.size := cell_lt q0_W
  have ST_W := Lib.hid HS_W
  clear HS_W
  go_wp2_with (refine stop_store (ty := 41) rfl ?_)
  refine ⟨?_⟩
  refine wpList_store_agg rfl _ _ _ rfl (w.heap.size + 1) #[.int .i64 lo, .int .i64 hi, .int .i64 wa, .int .i64 ri, .int .i64 ba, .int .i64 r, .int .i64 1, .int .i64 il, .int .i64 qu, .int .i64 0, .bool dr] rfl rfl (by kernel_rfl) (by kernel_rfl) ((ST_W.out.other R4.out (by omega)).set _ _) (fun W2 HS_W2 => ?_)
  have X_W2 := Lib.hid (HS_W2.ext w (by (repeat' (with_reducible first | refine Ext.drew ?_ | refine Ext.drewN ?_ _ | refine Ext.alloc ?_ _ | exact Ext.refl _ | exact X_W.out | exact X_w3.out | (refine Ext.setCell ?_ ?_ _; rotate_left; (focus ((try simp); try omega)))))) (by first | exact Nat.le_refl _ | omega | (simp; done) | (simp; omega)))
  have q0_W2 : W2.cell? ⟨w.heap.size + 1, 0, none⟩ = some (.int .i64 lo) := HS_W2.at' 0 _ rfl
  have q1_W2 : W2.cell? ⟨w.heap.size + 1, 1, none⟩ = some (.int .i64 hi) := HS_W2.at' 1 _ rfl
  have q2_W2 : W2.cell? ⟨w.heap.size + 1, 2, none⟩ = some (.int .i64 wa) := HS_W2.at' 2 _ rfl
  have q3_W2 : W2.cell? ⟨w.heap.size + 1, 3, none⟩ = some (.int .i64 ri) := HS_W2.at' 3 _ rfl
  have q4_W2 : W2.cell? ⟨w.heap.size + 1, 4, none⟩ = some (.int .i64 ba) := HS_W2.at' 4 _ rfl
  have q5_W2 : W2.cell? ⟨w.heap.size + 1, 5, none⟩ = some (.int .i64 r) := HS_W2.at' 5 _ rfl
  have q6_W2 : W2.cell? ⟨w.heap.size + 1, 6, none⟩ = some (.int .i64 1) := HS_W2.at' 6 _ rfl
  have q7_W2 : W2.cell? ⟨w.heap.size + 1, 7, none⟩ = some (.int .i64 il) := HS_W2.at' 7 _ rfl
  have q8_W2 : W2.cell? ⟨w.heap.size + 1, 8, none⟩ = some (.int .i64 qu) := HS_W2.at' 8 _ rfl
  have q9_W2 : W2.cell? ⟨w.heap.size + 1, 9, none⟩ = some (.int .i64 0) := HS_W2.at' 9 _ rfl
  have q10_W2 : W2.cell? ⟨w.heap.size + 1, 10, none⟩ = some (.bool dr) := HS_W2.at' 10 _ rfl
  have RM_W2 := Lib.hid (HS_W2.room ((ST_W.out.other R4.out (by omega)).set _ _) (Nat.le_refl _))
  have fz_W2 : ∀ o, W2.frozen? ⟨w.heap.size + 1, o, none⟩ = false := RM_W2.out.2
  have z_W2 : w.heap.size + 1 < W2.heap.size := cell_lt q0_W2
  have ST_W2 := Lib.hid HS_W2
  clear HS_W2
  go_wp2_with fail
  exact bodyPost_ret (v := .tuple #[.agg #[.int .i64 lo, .int .i64 hi, .int .i64 wa, .int .i64 ri, .int .i64 ba, .int .i64 r, .int .i64 1, .int .i64 il, .int .i64 qu, .int .i64 0, .bool dr], .int .i64 d]) (by simp [results, Try.results53, go_sem, *]) rfl ⟨rfl, by (repeat' (with_reducible first | refine Ext.drew ?_ | refine Ext.drewN ?_ _ | refine Ext.alloc ?_ _ | exact Ext.refl _ | exact X_W2.out | exact X_W.out | exact X_w3.out | (refine Ext.setCell ?_ ?_ _; rotate_left; (focus ((try simp); try omega)))))⟩
set_option maxHeartbeats 4000000 in
theorem guard_watch_stay_no (lo hi wa ri ba bs cn il qu r d : Int) (dr : Bool) (b0 : -2000000000 ≤ bs ∧ bs ≤ 2000000000) (b1 : 1 ≤ ri ∧ ri ≤ 400000) (b2 : 0 ≤ cn ∧ cn ≤ 1048576) (h4 : r < bs + ri) (h5 : wa ≤ cn + 1) (w : World) :
    Calls Try.prog 53 #[.agg #[.int .i64 lo, .int .i64 hi, .int .i64 wa, .int .i64 ri, .int .i64 ba, .int .i64 bs, .int .i64 cn, .int .i64 il, .int .i64 qu, .int .i64 0, .bool dr], .int .i64 r, .int .i64 d] w fun e w' => e = .returned (.tuple #[.agg #[.int .i64 lo, .int .i64 hi, .int .i64 wa, .int .i64 ri, .int .i64 ba, .int .i64 bs, .int .i64 wa, .int .i64 il, .int .i64 qu, .int .i64 3, .bool dr], .int .i64 0]) ∧ Ext w w' := by
  have q1 : IntKind.i64.wrap (bs + ri) = bs + ri := IntWalk.i64_in _ (by omega)
  have q2 : IntKind.i64.wrap (cn + 1) = cn + 1 := IntWalk.i64_in _ (by omega)
  have d1 := dle_f h4
  have d2 := dle_t h5
  clear b0 b1 b2 h4 h5
  go_enter Try.func53, Try.ntmps53
  go_wp2_with fail
  exact bodyPost_ret (v := .tuple #[.agg #[.int .i64 lo, .int .i64 hi, .int .i64 wa, .int .i64 ri, .int .i64 ba, .int .i64 bs, .int .i64 wa, .int .i64 il, .int .i64 qu, .int .i64 3, .bool dr], .int .i64 0]) (by simp [results, Try.results53, go_sem, *]) rfl ⟨rfl, by (repeat' (with_reducible first | refine Ext.drew ?_ | refine Ext.drewN ?_ _ | refine Ext.alloc ?_ _ | exact Ext.refl _ | fail | (refine Ext.setCell ?_ ?_ _; rotate_left; (focus ((try simp); try omega)))))⟩
set_option maxHeartbeats 4000000 in
theorem guard_watch_stay (lo hi wa ri ba bs cn il qu r d : Int) (dr : Bool) (b0 : -2000000000 ≤ bs ∧ bs ≤ 2000000000) (b1 : 1 ≤ ri ∧ ri ≤ 400000) (b2 : 0 ≤ cn ∧ cn ≤ 1048576) (h4 : r < bs + ri) (h5 : cn + 1 < wa) (w : World) :
    Calls Try.prog 53 #[.agg #[.int .i64 lo, .int .i64 hi, .int .i64 wa, .int .i64 ri, .int .i64 ba, .int .i64 bs, .int .i64 cn, .int .i64 il, .int .i64 qu, .int .i64 0, .bool dr], .int .i64 r, .int .i64 d] w fun e w' => e = .returned (.tuple #[.agg #[.int .i64 lo, .int .i64 hi, .int .i64 wa, .int .i64 ri, .int .i64 ba, .int .i64 bs, .int .i64 (cn + 1), .int .i64 il, .int .i64 qu, .int .i64 0, .bool dr], .int .i64 d]) ∧ Ext w w' := by
  have q1 : IntKind.i64.wrap (bs + ri) = bs + ri := IntWalk.i64_in _ (by omega)
  have q2 : IntKind.i64.wrap (cn + 1) = cn + 1 := IntWalk.i64_in _ (by omega)
  have d1 := dle_f h4
  have d2 := dle_f h5
  clear b0 b1 b2 h4 h5
  go_enter Try.func53, Try.ntmps53
  go_wp2_with fail
  exact bodyPost_ret (v := .tuple #[.agg #[.int .i64 lo, .int .i64 hi, .int .i64 wa, .int .i64 ri, .int .i64 ba, .int .i64 bs, .int .i64 (cn + 1), .int .i64 il, .int .i64 qu, .int .i64 0, .bool dr], .int .i64 d]) (by simp [results, Try.results53, go_sem, *]) rfl ⟨rfl, by (repeat' (with_reducible first | refine Ext.drew ?_ | refine Ext.drewN ?_ _ | refine Ext.alloc ?_ _ | exact Ext.refl _ | fail | (refine Ext.setCell ?_ ?_ _; rotate_left; (focus ((try simp); try omega)))))⟩
set_option maxHeartbeats 4000000 in
theorem guard_Step_no (lo hi wa ri ba bs cn il qu fa r t d : Int) (dr : Bool) (h : ¬ GVal lo hi wa ri ba bs cn il qu fa) (w : World) :
    Calls Try.prog 25 #[.agg #[.int .i64 lo, .int .i64 hi, .int .i64 wa, .int .i64 ri, .int .i64 ba, .int .i64 bs, .int .i64 cn, .int .i64 il, .int .i64 qu, .int .i64 fa, .bool dr], .int .i64 r, .int .i64 t, .int .i64 d] w fun e w' => e = .returned (.tuple #[.agg #[.int .i64 lo, .int .i64 hi, .int .i64 wa, .int .i64 ri, .int .i64 ba, .int .i64 bs, .int .i64 cn, .int .i64 il, .int .i64 qu, .int .i64 fa, .bool dr], .int .i64 0]) ∧ Ext w w' := by
  have c1 := Lib.hid fun w => guard_GValid lo hi wa ri ba bs cn il qu fa dr false (by rw [decide_eq_false h]) w
  go_enter Try.func25, Try.ntmps25
  go_wp2_with fail
  refine (c1.out _).mono ?_; rintro e w1 ⟨rfl, x_w1⟩
  obtain ⟨k_w1, f_w1⟩ := bcell x_w1
  have s_w1 := x_w1.size; (try simp at s_w1)
  have z0_w1 : w.heap.size < w1.heap.size := by omega
  have z1_w1 : w.heap.size + 1 < w1.heap.size := by omega
  have X_w1 := Lib.hid (show Ext w w1 from Ext.trans (by (repeat' (with_reducible first | refine Ext.drew ?_ | refine Ext.drewN ?_ _ | refine Ext.alloc ?_ _ | exact Ext.refl _ | fail | (refine Ext.setCell ?_ ?_ _; rotate_left; (focus ((try simp); try omega)))))) x_w1)
  clear x_w1 s_w1
  go_wp2_with fail
  exact bodyPost_ret (v := .tuple #[.agg #[.int .i64 lo, .int .i64 hi, .int .i64 wa, .int .i64 ri, .int .i64 ba, .int .i64 bs, .int .i64 cn, .int .i64 il, .int .i64 qu, .int .i64 fa, .bool dr], .int .i64 0]) (by simp [results, Try.results25, go_sem, *]) rfl ⟨rfl, by (repeat' (with_reducible first | refine Ext.drew ?_ | refine Ext.drewN ?_ _ | refine Ext.alloc ?_ _ | exact Ext.refl _ | exact X_w1.out | (refine Ext.setCell ?_ ?_ _; rotate_left; (focus ((try simp); try omega)))))⟩
set_option maxHeartbeats 4000000 in
theorem guard_Step_fault (lo hi wa ri ba bs cn il qu fa r t d : Int) (dr : Bool) (h : GVal lo hi wa ri ba bs cn il qu fa) (hf : fa ≠ 0) (w : World) :
    Calls Try.prog 25 #[.agg #[.int .i64 lo, .int .i64 hi, .int .i64 wa, .int .i64 ri, .int .i64 ba, .int .i64 bs, .int .i64 cn, .int .i64 il, .int .i64 qu, .int .i64 fa, .bool dr], .int .i64 r, .int .i64 t, .int .i64 d] w fun e w' => e = .returned (.tuple #[.agg #[.int .i64 lo, .int .i64 hi, .int .i64 wa, .int .i64 ri, .int .i64 ba, .int .i64 bs, .int .i64 cn, .int .i64 il, .int .i64 qu, .int .i64 fa, .bool dr], .int .i64 0]) ∧ Ext w w' := by
  have c1 := Lib.hid fun w => guard_GValid lo hi wa ri ba bs cn il qu fa dr true (by rw [decide_eq_true h]) w
  have d0 := bne_t hf
  clear h hf
  go_enter Try.func25, Try.ntmps25
  go_wp2_with fail
  refine (c1.out _).mono ?_; rintro e w1 ⟨rfl, x_w1⟩
  obtain ⟨k_w1, f_w1⟩ := bcell x_w1
  have s_w1 := x_w1.size; (try simp at s_w1)
  have z0_w1 : w.heap.size < w1.heap.size := by omega
  have z1_w1 : w.heap.size + 1 < w1.heap.size := by omega
  have q0_w1 : w1.cell? ⟨w.heap.size, 0, none⟩ = some (.int .i64 lo) := by rw [k_w1 _ _ (by first | omega | (simp; done) | (simp; omega))]; go_simp
  have q1_w1 : w1.cell? ⟨w.heap.size, 1, none⟩ = some (.int .i64 hi) := by rw [k_w1 _ _ (by first | omega | (simp; done) | (simp; omega))]; go_simp
  have q2_w1 : w1.cell? ⟨w.heap.size, 2, none⟩ = some (.int .i64 wa) := by rw [k_w1 _ _ (by first | omega | (simp; done) | (simp; omega))]; go_simp
  have q3_w1 : w1.cell? ⟨w.heap.size, 3, none⟩ = some (.int .i64 ri) := by rw [k_w1 _ _ (by first | omega | (simp; done) | (simp; omega))]; go_simp
  have q4_w1 : w1.cell? ⟨w.heap.size, 4, none⟩ = some (.int .i64 ba) := by rw [k_w1 _ _ (by first | omega | (simp; done) | (simp; omega))]; go_simp
  have q5_w1 : w1.cell? ⟨w.heap.size, 5, none⟩ = some (.int .i64 bs) := by rw [k_w1 _ _ (by first | omega | (simp; done) | (simp; omega))]; go_simp
  have q6_w1 : w1.cell? ⟨w.heap.size, 6, none⟩ = some (.int .i64 cn) := by rw [k_w1 _ _ (by first | omega | (simp; done) | (simp; omega))]; go_simp
  have q7_w1 : w1.cell? ⟨w.heap.size, 7, none⟩ = some (.int .i64 il) := by rw [k_w1 _ _ (by first | omega | (simp; done) | (simp; omega))]; go_simp
  have q8_w1 : w1.cell? ⟨w.heap.size, 8, none⟩ = some (.int .i64 qu) := by rw [k_w1 _ _ (by first | omega | (simp; done) | (simp; omega))]; go_simp
  have q9_w1 : w1.cell? ⟨w.heap.size, 9, none⟩ = some (.int .i64 fa) := by rw [k_w1 _ _ (by first | omega | (simp; done) | (simp; omega))]; go_simp
  have q10_w1 : w1.cell? ⟨w.heap.size, 10, none⟩ = some (.bool dr) := by rw [k_w1 _ _ (by first | omega | (simp; done) | (simp; omega))]; go_simp
  have X_w1 := Lib.hid (show Ext w w1 from Ext.trans (by (repeat' (with_reducible first | refine Ext.drew ?_ | refine Ext.drewN ?_ _ | refine Ext.alloc ?_ _ | exact Ext.refl _ | fail | (refine Ext.setCell ?_ ?_ _; rotate_left; (focus ((try simp); try omega)))))) x_w1)
  clear x_w1 s_w1
  go_wp2_with fail
  exact bodyPost_ret (v := .tuple #[.agg #[.int .i64 lo, .int .i64 hi, .int .i64 wa, .int .i64 ri, .int .i64 ba, .int .i64 bs, .int .i64 cn, .int .i64 il, .int .i64 qu, .int .i64 fa, .bool dr], .int .i64 0]) (by simp [results, Try.results25, go_sem, *]) rfl ⟨rfl, by (repeat' (with_reducible first | refine Ext.drew ?_ | refine Ext.drewN ?_ _ | refine Ext.alloc ?_ _ | exact Ext.refl _ | exact X_w1.out | (refine Ext.setCell ?_ ?_ _; rotate_left; (focus ((try simp); try omega)))))⟩
set_option maxHeartbeats 4000000 in
theorem guard_Step_cold (lo hi wa ri ba bs cn il qu r t d : Int) (dr : Bool) (h : GVal lo hi wa ri ba bs cn il qu 0) (r0 : r < lo) (w : World) :
    Calls Try.prog 25 #[.agg #[.int .i64 lo, .int .i64 hi, .int .i64 wa, .int .i64 ri, .int .i64 ba, .int .i64 bs, .int .i64 cn, .int .i64 il, .int .i64 qu, .int .i64 0, .bool dr], .int .i64 r, .int .i64 t, .int .i64 d] w fun e w' => e = .returned (.tuple #[.agg #[.int .i64 lo, .int .i64 hi, .int .i64 wa, .int .i64 ri, .int .i64 ba, .int .i64 bs, .int .i64 cn, .int .i64 il, .int .i64 qu, .int .i64 1, .bool dr], .int .i64 0]) ∧ Ext w w' := by
  have c1 := Lib.hid fun w => guard_GValid lo hi wa ri ba bs cn il qu 0 dr true (by rw [decide_eq_true h]) w
  have d1 := dlt_t r0
  clear h r0
  go_enter Try.func25, Try.ntmps25
  go_wp2_with fail
  refine (c1.out _).mono ?_; rintro e w1 ⟨rfl, x_w1⟩
  obtain ⟨k_w1, f_w1⟩ := bcell x_w1
  have s_w1 := x_w1.size; (try simp at s_w1)
  have z0_w1 : w.heap.size < w1.heap.size := by omega
  have z1_w1 : w.heap.size + 1 < w1.heap.size := by omega
  have q0_w1 : w1.cell? ⟨w.heap.size, 0, none⟩ = some (.int .i64 lo) := by rw [k_w1 _ _ (by first | omega | (simp; done) | (simp; omega))]; go_simp
  have q1_w1 : w1.cell? ⟨w.heap.size, 1, none⟩ = some (.int .i64 hi) := by rw [k_w1 _ _ (by first | omega | (simp; done) | (simp; omega))]; go_simp
  have q2_w1 : w1.cell? ⟨w.heap.size, 2, none⟩ = some (.int .i64 wa) := by rw [k_w1 _ _ (by first | omega | (simp; done) | (simp; omega))]; go_simp
  have q3_w1 : w1.cell? ⟨w.heap.size, 3, none⟩ = some (.int .i64 ri) := by rw [k_w1 _ _ (by first | omega | (simp; done) | (simp; omega))]; go_simp
  have q4_w1 : w1.cell? ⟨w.heap.size, 4, none⟩ = some (.int .i64 ba) := by rw [k_w1 _ _ (by first | omega | (simp; done) | (simp; omega))]; go_simp
  have q5_w1 : w1.cell? ⟨w.heap.size, 5, none⟩ = some (.int .i64 bs) := by rw [k_w1 _ _ (by first | omega | (simp; done) | (simp; omega))]; go_simp
  have q6_w1 : w1.cell? ⟨w.heap.size, 6, none⟩ = some (.int .i64 cn) := by rw [k_w1 _ _ (by first | omega | (simp; done) | (simp; omega))]; go_simp
  have q7_w1 : w1.cell? ⟨w.heap.size, 7, none⟩ = some (.int .i64 il) := by rw [k_w1 _ _ (by first | omega | (simp; done) | (simp; omega))]; go_simp
  have q8_w1 : w1.cell? ⟨w.heap.size, 8, none⟩ = some (.int .i64 qu) := by rw [k_w1 _ _ (by first | omega | (simp; done) | (simp; omega))]; go_simp
  have q9_w1 : w1.cell? ⟨w.heap.size, 9, none⟩ = some (.int .i64 0) := by rw [k_w1 _ _ (by first | omega | (simp; done) | (simp; omega))]; go_simp
  have q10_w1 : w1.cell? ⟨w.heap.size, 10, none⟩ = some (.bool dr) := by rw [k_w1 _ _ (by first | omega | (simp; done) | (simp; omega))]; go_simp
  have X_w1 := Lib.hid (show Ext w w1 from Ext.trans (by (repeat' (with_reducible first | refine Ext.drew ?_ | refine Ext.drewN ?_ _ | refine Ext.alloc ?_ _ | exact Ext.refl _ | fail | (refine Ext.setCell ?_ ?_ _; rotate_left; (focus ((try simp); try omega)))))) x_w1)
  clear x_w1 s_w1
  go_wp2_with fail
  exact bodyPost_ret (v := .tuple #[.agg #[.int .i64 lo, .int .i64 hi, .int .i64 wa, .int .i64 ri, .int .i64 ba, .int .i64 bs, .int .i64 cn, .int .i64 il, .int .i64 qu, .int .i64 1, .bool dr], .int .i64 0]) (by simp [results, Try.results25, go_sem, *]) rfl ⟨rfl, by (repeat' (with_reducible first | refine Ext.drew ?_ | refine Ext.drewN ?_ _ | refine Ext.alloc ?_ _ | exact Ext.refl _ | exact X_w1.out | (refine Ext.setCell ?_ ?_ _; rotate_left; (focus ((try simp); try omega)))))⟩
set_option maxHeartbeats 4000000 in
theorem guard_Step_hot (lo hi wa ri ba bs cn il qu r t d : Int) (dr : Bool) (h : GVal lo hi wa ri ba bs cn il qu 0) (r0 : lo ≤ r) (r1 : hi < r) (w : World) :
    Calls Try.prog 25 #[.agg #[.int .i64 lo, .int .i64 hi, .int .i64 wa, .int .i64 ri, .int .i64 ba, .int .i64 bs, .int .i64 cn, .int .i64 il, .int .i64 qu, .int .i64 0, .bool dr], .int .i64 r, .int .i64 t, .int .i64 d] w fun e w' => e = .returned (.tuple #[.agg #[.int .i64 lo, .int .i64 hi, .int .i64 wa, .int .i64 ri, .int .i64 ba, .int .i64 bs, .int .i64 cn, .int .i64 il, .int .i64 qu, .int .i64 2, .bool dr], .int .i64 0]) ∧ Ext w w' := by
  have c1 := Lib.hid fun w => guard_GValid lo hi wa ri ba bs cn il qu 0 dr true (by rw [decide_eq_true h]) w
  have d1 := dlt_f r0
  have d2 := dlt_t r1
  clear h r0 r1
  go_enter Try.func25, Try.ntmps25
  go_wp2_with fail
  refine (c1.out _).mono ?_; rintro e w1 ⟨rfl, x_w1⟩
  obtain ⟨k_w1, f_w1⟩ := bcell x_w1
  have s_w1 := x_w1.size; (try simp at s_w1)
  have z0_w1 : w.heap.size < w1.heap.size := by omega
  have z1_w1 : w.heap.size + 1 < w1.heap.size := by omega
  have q0_w1 : w1.cell? ⟨w.heap.size, 0, none⟩ = some (.int .i64 lo) := by rw [k_w1 _ _ (by first | omega | (simp; done) | (simp; omega))]; go_simp
  have q1_w1 : w1.cell? ⟨w.heap.size, 1, none⟩ = some (.int .i64 hi) := by rw [k_w1 _ _ (by first | omega | (simp; done) | (simp; omega))]; go_simp
  have q2_w1 : w1.cell? ⟨w.heap.size, 2, none⟩ = some (.int .i64 wa) := by rw [k_w1 _ _ (by first | omega | (simp; done) | (simp; omega))]; go_simp
  have q3_w1 : w1.cell? ⟨w.heap.size, 3, none⟩ = some (.int .i64 ri) := by rw [k_w1 _ _ (by first | omega | (simp; done) | (simp; omega))]; go_simp
  have q4_w1 : w1.cell? ⟨w.heap.size, 4, none⟩ = some (.int .i64 ba) := by rw [k_w1 _ _ (by first | omega | (simp; done) | (simp; omega))]; go_simp
  have q5_w1 : w1.cell? ⟨w.heap.size, 5, none⟩ = some (.int .i64 bs) := by rw [k_w1 _ _ (by first | omega | (simp; done) | (simp; omega))]; go_simp
  have q6_w1 : w1.cell? ⟨w.heap.size, 6, none⟩ = some (.int .i64 cn) := by rw [k_w1 _ _ (by first | omega | (simp; done) | (simp; omega))]; go_simp
  have q7_w1 : w1.cell? ⟨w.heap.size, 7, none⟩ = some (.int .i64 il) := by rw [k_w1 _ _ (by first | omega | (simp; done) | (simp; omega))]; go_simp
  have q8_w1 : w1.cell? ⟨w.heap.size, 8, none⟩ = some (.int .i64 qu) := by rw [k_w1 _ _ (by first | omega | (simp; done) | (simp; omega))]; go_simp
  have q9_w1 : w1.cell? ⟨w.heap.size, 9, none⟩ = some (.int .i64 0) := by rw [k_w1 _ _ (by first | omega | (simp; done) | (simp; omega))]; go_simp
  have q10_w1 : w1.cell? ⟨w.heap.size, 10, none⟩ = some (.bool dr) := by rw [k_w1 _ _ (by first | omega | (simp; done) | (simp; omega))]; go_simp
  have X_w1 := Lib.hid (show Ext w w1 from Ext.trans (by (repeat' (with_reducible first | refine Ext.drew ?_ | refine Ext.drewN ?_ _ | refine Ext.alloc ?_ _ | exact Ext.refl _ | fail | (refine Ext.setCell ?_ ?_ _; rotate_left; (focus ((try simp); try omega)))))) x_w1)
  clear x_w1 s_w1
  go_wp2_with fail
  exact bodyPost_ret (v := .tuple #[.agg #[.int .i64 lo, .int .i64 hi, .int .i64 wa, .int .i64 ri, .int .i64 ba, .int .i64 bs, .int .i64 cn, .int .i64 il, .int .i64 qu, .int .i64 2, .bool dr], .int .i64 0]) (by simp [results, Try.results25, go_sem, *]) rfl ⟨rfl, by (repeat' (with_reducible first | refine Ext.drew ?_ | refine Ext.drewN ?_ _ | refine Ext.alloc ?_ _ | exact Ext.refl _ | exact X_w1.out | (refine Ext.setCell ?_ ?_ _; rotate_left; (focus ((try simp); try omega)))))⟩
set_option maxHeartbeats 4000000 in
theorem guard_Step_quiet (lo hi wa ri ba bs cn il qu r t d : Int) (dr : Bool) (h : GVal lo hi wa ri ba bs cn il qu 0) (r0 : lo ≤ r) (r1 : r ≤ hi) (hq : il ≤ qu + 1) (w : World) :
    Calls Try.prog 25 #[.agg #[.int .i64 lo, .int .i64 hi, .int .i64 wa, .int .i64 ri, .int .i64 ba, .int .i64 bs, .int .i64 cn, .int .i64 il, .int .i64 qu, .int .i64 0, .bool dr], .int .i64 r, .int .i64 t, .int .i64 d] w fun e w' => e = .returned (.tuple #[.agg #[.int .i64 lo, .int .i64 hi, .int .i64 wa, .int .i64 ri, .int .i64 ba, .int .i64 r, .int .i64 0, .int .i64 il, .int .i64 il, .int .i64 0, .bool dr], .int .i64 0]) ∧ Ext w w' := by
  have c1 := Lib.hid fun w => guard_GValid lo hi wa ri ba bs cn il qu 0 dr true (by rw [decide_eq_true h]) w
  obtain ⟨b0, b1, b2, b3, b4, b5, b6, b7, b8, b9, b10, b11, b12, b13, b14, b15⟩ := gbnd h
  have q1 : IntKind.i64.wrap (qu + 1) = qu + 1 := IntWalk.i64_in _ (by omega)
  have d1 := dlt_f r0
  have d2 := dlt_f r1
  have d3 := dle_t hq
  clear b0 b1 b2 b3 b4 b5 b6 b7 b8 b9 b10 b11 b12 b13 b14 b15 h
  go_enter Try.func25, Try.ntmps25
  go_wp2_with fail
  refine (c1.out _).mono ?_; rintro e w1 ⟨rfl, x_w1⟩
  obtain ⟨k_w1, f_w1⟩ := bcell x_w1
  have s_w1 := x_w1.size; (try simp at s_w1)
  have z0_w1 : w.heap.size < w1.heap.size := by omega
  have z1_w1 : w.heap.size + 1 < w1.heap.size := by omega
  have q0_w1 : w1.cell? ⟨w.heap.size, 0, none⟩ = some (.int .i64 lo) := by rw [k_w1 _ _ (by first | omega | (simp; done) | (simp; omega))]; go_simp
  have q1_w1 : w1.cell? ⟨w.heap.size, 1, none⟩ = some (.int .i64 hi) := by rw [k_w1 _ _ (by first | omega | (simp; done) | (simp; omega))]; go_simp
  have q2_w1 : w1.cell? ⟨w.heap.size, 2, none⟩ = some (.int .i64 wa) := by rw [k_w1 _ _ (by first | omega | (simp; done) | (simp; omega))]; go_simp
  have q3_w1 : w1.cell? ⟨w.heap.size, 3, none⟩ = some (.int .i64 ri) := by rw [k_w1 _ _ (by first | omega | (simp; done) | (simp; omega))]; go_simp
  have q4_w1 : w1.cell? ⟨w.heap.size, 4, none⟩ = some (.int .i64 ba) := by rw [k_w1 _ _ (by first | omega | (simp; done) | (simp; omega))]; go_simp
  have q5_w1 : w1.cell? ⟨w.heap.size, 5, none⟩ = some (.int .i64 bs) := by rw [k_w1 _ _ (by first | omega | (simp; done) | (simp; omega))]; go_simp
  have q6_w1 : w1.cell? ⟨w.heap.size, 6, none⟩ = some (.int .i64 cn) := by rw [k_w1 _ _ (by first | omega | (simp; done) | (simp; omega))]; go_simp
  have q7_w1 : w1.cell? ⟨w.heap.size, 7, none⟩ = some (.int .i64 il) := by rw [k_w1 _ _ (by first | omega | (simp; done) | (simp; omega))]; go_simp
  have q8_w1 : w1.cell? ⟨w.heap.size, 8, none⟩ = some (.int .i64 qu) := by rw [k_w1 _ _ (by first | omega | (simp; done) | (simp; omega))]; go_simp
  have q9_w1 : w1.cell? ⟨w.heap.size, 9, none⟩ = some (.int .i64 0) := by rw [k_w1 _ _ (by first | omega | (simp; done) | (simp; omega))]; go_simp
  have q10_w1 : w1.cell? ⟨w.heap.size, 10, none⟩ = some (.bool dr) := by rw [k_w1 _ _ (by first | omega | (simp; done) | (simp; omega))]; go_simp
  have X_w1 := Lib.hid (show Ext w w1 from Ext.trans (by (repeat' (with_reducible first | refine Ext.drew ?_ | refine Ext.drewN ?_ _ | refine Ext.alloc ?_ _ | exact Ext.refl _ | fail | (refine Ext.setCell ?_ ?_ _; rotate_left; (focus ((try simp); try omega)))))) x_w1)
  clear x_w1 s_w1
  go_wp2_with fail
  refine ((guard_rebased lo hi wa ri ba bs cn il (il) 0 r dr _)).mono ?_; rintro e w3 ⟨rfl, x_w3⟩
  obtain ⟨k_w3, f_w3⟩ := bcell x_w3
  have X_w3 := Lib.hid (show Ext w w3 from Ext.trans (by (repeat' (with_reducible first | refine Ext.drew ?_ | refine Ext.drewN ?_ _ | refine Ext.alloc ?_ _ | exact Ext.refl _ | exact X_w1.out | (refine Ext.setCell ?_ ?_ _; rotate_left; (focus ((try simp); try omega)))))) x_w3)
  clear x_w3
  go_wp2_with fail
  exact bodyPost_ret (v := .tuple #[.agg #[.int .i64 lo, .int .i64 hi, .int .i64 wa, .int .i64 ri, .int .i64 ba, .int .i64 r, .int .i64 0, .int .i64 il, .int .i64 il, .int .i64 0, .bool dr], .int .i64 0]) (by simp [results, Try.results25, go_sem, *]) rfl ⟨rfl, by (repeat' (with_reducible first | refine Ext.drew ?_ | refine Ext.drewN ?_ _ | refine Ext.alloc ?_ _ | exact Ext.refl _ | exact X_w3.out | exact X_w1.out | (refine Ext.setCell ?_ ?_ _; rotate_left; (focus ((try simp); try omega)))))⟩
set_option maxHeartbeats 4000000 in
theorem guard_Step_door (lo hi wa ri ba bs cn il qu r t d : Int) (h : GVal lo hi wa ri ba bs cn il qu 0) (r0 : lo ≤ r) (r1 : r ≤ hi) (hq : qu + 1 < il) (w : World) :
    Calls Try.prog 25 #[.agg #[.int .i64 lo, .int .i64 hi, .int .i64 wa, .int .i64 ri, .int .i64 ba, .int .i64 bs, .int .i64 cn, .int .i64 il, .int .i64 qu, .int .i64 0, .bool true], .int .i64 r, .int .i64 t, .int .i64 d] w fun e w' => e = .returned (.tuple #[.agg #[.int .i64 lo, .int .i64 hi, .int .i64 wa, .int .i64 ri, .int .i64 ba, .int .i64 r, .int .i64 0, .int .i64 il, .int .i64 (qu + 1), .int .i64 0, .bool true], .int .i64 0]) ∧ Ext w w' := by
  have c1 := Lib.hid fun w => guard_GValid lo hi wa ri ba bs cn il qu 0 true true (by rw [decide_eq_true h]) w
  obtain ⟨b0, b1, b2, b3, b4, b5, b6, b7, b8, b9, b10, b11, b12, b13, b14, b15⟩ := gbnd h
  have q1 : IntKind.i64.wrap (qu + 1) = qu + 1 := IntWalk.i64_in _ (by omega)
  have d1 := dlt_f r0
  have d2 := dlt_f r1
  have d3 := dle_f (show qu + 1 < il by omega)
  clear b0 b1 b2 b3 b4 b5 b6 b7 b8 b9 b10 b11 b12 b13 b14 b15 h
  go_enter Try.func25, Try.ntmps25
  go_wp2_with fail
  refine (c1.out _).mono ?_; rintro e w1 ⟨rfl, x_w1⟩
  obtain ⟨k_w1, f_w1⟩ := bcell x_w1
  have s_w1 := x_w1.size; (try simp at s_w1)
  have z0_w1 : w.heap.size < w1.heap.size := by omega
  have z1_w1 : w.heap.size + 1 < w1.heap.size := by omega
  have q0_w1 : w1.cell? ⟨w.heap.size, 0, none⟩ = some (.int .i64 lo) := by rw [k_w1 _ _ (by first | omega | (simp; done) | (simp; omega))]; go_simp
  have q1_w1 : w1.cell? ⟨w.heap.size, 1, none⟩ = some (.int .i64 hi) := by rw [k_w1 _ _ (by first | omega | (simp; done) | (simp; omega))]; go_simp
  have q2_w1 : w1.cell? ⟨w.heap.size, 2, none⟩ = some (.int .i64 wa) := by rw [k_w1 _ _ (by first | omega | (simp; done) | (simp; omega))]; go_simp
  have q3_w1 : w1.cell? ⟨w.heap.size, 3, none⟩ = some (.int .i64 ri) := by rw [k_w1 _ _ (by first | omega | (simp; done) | (simp; omega))]; go_simp
  have q4_w1 : w1.cell? ⟨w.heap.size, 4, none⟩ = some (.int .i64 ba) := by rw [k_w1 _ _ (by first | omega | (simp; done) | (simp; omega))]; go_simp
  have q5_w1 : w1.cell? ⟨w.heap.size, 5, none⟩ = some (.int .i64 bs) := by rw [k_w1 _ _ (by first | omega | (simp; done) | (simp; omega))]; go_simp
  have q6_w1 : w1.cell? ⟨w.heap.size, 6, none⟩ = some (.int .i64 cn) := by rw [k_w1 _ _ (by first | omega | (simp; done) | (simp; omega))]; go_simp
  have q7_w1 : w1.cell? ⟨w.heap.size, 7, none⟩ = some (.int .i64 il) := by rw [k_w1 _ _ (by first | omega | (simp; done) | (simp; omega))]; go_simp
  have q8_w1 : w1.cell? ⟨w.heap.size, 8, none⟩ = some (.int .i64 qu) := by rw [k_w1 _ _ (by first | omega | (simp; done) | (simp; omega))]; go_simp
  have q9_w1 : w1.cell? ⟨w.heap.size, 9, none⟩ = some (.int .i64 0) := by rw [k_w1 _ _ (by first | omega | (simp; done) | (simp; omega))]; go_simp
  have q10_w1 : w1.cell? ⟨w.heap.size, 10, none⟩ = some (.bool true) := by rw [k_w1 _ _ (by first | omega | (simp; done) | (simp; omega))]; go_simp
  have X_w1 := Lib.hid (show Ext w w1 from Ext.trans (by (repeat' (with_reducible first | refine Ext.drew ?_ | refine Ext.drewN ?_ _ | refine Ext.alloc ?_ _ | exact Ext.refl _ | fail | (refine Ext.setCell ?_ ?_ _; rotate_left; (focus ((try simp); try omega)))))) x_w1)
  clear x_w1 s_w1
  go_wp2_with fail
  refine ((guard_rebased lo hi wa ri ba bs cn il (qu + 1) 0 r true _)).mono ?_; rintro e w3 ⟨rfl, x_w3⟩
  obtain ⟨k_w3, f_w3⟩ := bcell x_w3
  have X_w3 := Lib.hid (show Ext w w3 from Ext.trans (by (repeat' (with_reducible first | refine Ext.drew ?_ | refine Ext.drewN ?_ _ | refine Ext.alloc ?_ _ | exact Ext.refl _ | exact X_w1.out | (refine Ext.setCell ?_ ?_ _; rotate_left; (focus ((try simp); try omega)))))) x_w3)
  clear x_w3
  go_wp2_with fail
  exact bodyPost_ret (v := .tuple #[.agg #[.int .i64 lo, .int .i64 hi, .int .i64 wa, .int .i64 ri, .int .i64 ba, .int .i64 r, .int .i64 0, .int .i64 il, .int .i64 (qu + 1), .int .i64 0, .bool true], .int .i64 0]) (by simp [results, Try.results25, go_sem, *]) rfl ⟨rfl, by (repeat' (with_reducible first | refine Ext.drew ?_ | refine Ext.drewN ?_ _ | refine Ext.alloc ?_ _ | exact Ext.refl _ | exact X_w3.out | exact X_w1.out | (refine Ext.setCell ?_ ?_ _; rotate_left; (focus ((try simp); try omega)))))⟩
set_option maxHeartbeats 4000000 in
theorem guard_Step_zero (lo hi wa ri ba bs cn il qu r t d : Int) (h : GVal lo hi wa ri ba bs cn il qu 0) (r0 : lo ≤ r) (r1 : r ≤ hi) (hq : qu + 1 < il) (d' t' : Int) (hd : d' = max 0 (min d 255)) (ht : t' = max (-1073741824) (min t 1073741824)) (h0 : d' = 0) (w : World) :
    Calls Try.prog 25 #[.agg #[.int .i64 lo, .int .i64 hi, .int .i64 wa, .int .i64 ri, .int .i64 ba, .int .i64 bs, .int .i64 cn, .int .i64 il, .int .i64 qu, .int .i64 0, .bool false], .int .i64 r, .int .i64 t, .int .i64 d] w fun e w' => e = .returned (.tuple #[.agg #[.int .i64 lo, .int .i64 hi, .int .i64 wa, .int .i64 ri, .int .i64 ba, .int .i64 r, .int .i64 0, .int .i64 il, .int .i64 (qu + 1), .int .i64 0, .bool false], .int .i64 0]) ∧ Ext w w' := by
  have c1 := Lib.hid fun w => guard_GValid lo hi wa ri ba bs cn il qu 0 false true (by rw [decide_eq_true h]) w
  obtain ⟨b0, b1, b2, b3, b4, b5, b6, b7, b8, b9, b10, b11, b12, b13, b14, b15⟩ := gbnd h
  have q1 : IntKind.i64.wrap (qu + 1) = qu + 1 := IntWalk.i64_in _ (by omega)
  have d1 := dlt_f r0
  have d2 := dlt_f r1
  have d3 := dle_f (show qu + 1 < il by omega)
  have c2 := Lib.hid fun w => num_Clamp d 0 255 w
  have c3 := Lib.hid fun w => num_Clamp t (-1073741824) 1073741824 w
  rw [← hd] at c2
  rw [← ht] at c3
  have tb : IntKind.i64.wrap (t' - ba) = t' - ba := IntWalk.i64_in _ (by omega)
  subst h0
  clear hd ht
  clear b0 b1 b2 b3 b4 b5 b6 b7 b8 b9 b10 b11 b12 b13 b14 b15 h
  go_enter Try.func25, Try.ntmps25
  go_wp2_with fail
  refine (c1.out _).mono ?_; rintro e w1 ⟨rfl, x_w1⟩
  obtain ⟨k_w1, f_w1⟩ := bcell x_w1
  have s_w1 := x_w1.size; (try simp at s_w1)
  have z0_w1 : w.heap.size < w1.heap.size := by omega
  have z1_w1 : w.heap.size + 1 < w1.heap.size := by omega
  have q0_w1 : w1.cell? ⟨w.heap.size, 0, none⟩ = some (.int .i64 lo) := by rw [k_w1 _ _ (by first | omega | (simp; done) | (simp; omega))]; go_simp
  have q1_w1 : w1.cell? ⟨w.heap.size, 1, none⟩ = some (.int .i64 hi) := by rw [k_w1 _ _ (by first | omega | (simp; done) | (simp; omega))]; go_simp
  have q2_w1 : w1.cell? ⟨w.heap.size, 2, none⟩ = some (.int .i64 wa) := by rw [k_w1 _ _ (by first | omega | (simp; done) | (simp; omega))]; go_simp
  have q3_w1 : w1.cell? ⟨w.heap.size, 3, none⟩ = some (.int .i64 ri) := by rw [k_w1 _ _ (by first | omega | (simp; done) | (simp; omega))]; go_simp
  have q4_w1 : w1.cell? ⟨w.heap.size, 4, none⟩ = some (.int .i64 ba) := by rw [k_w1 _ _ (by first | omega | (simp; done) | (simp; omega))]; go_simp
  have q5_w1 : w1.cell? ⟨w.heap.size, 5, none⟩ = some (.int .i64 bs) := by rw [k_w1 _ _ (by first | omega | (simp; done) | (simp; omega))]; go_simp
  have q6_w1 : w1.cell? ⟨w.heap.size, 6, none⟩ = some (.int .i64 cn) := by rw [k_w1 _ _ (by first | omega | (simp; done) | (simp; omega))]; go_simp
  have q7_w1 : w1.cell? ⟨w.heap.size, 7, none⟩ = some (.int .i64 il) := by rw [k_w1 _ _ (by first | omega | (simp; done) | (simp; omega))]; go_simp
  have q8_w1 : w1.cell? ⟨w.heap.size, 8, none⟩ = some (.int .i64 qu) := by rw [k_w1 _ _ (by first | omega | (simp; done) | (simp; omega))]; go_simp
  have q9_w1 : w1.cell? ⟨w.heap.size, 9, none⟩ = some (.int .i64 0) := by rw [k_w1 _ _ (by first | omega | (simp; done) | (simp; omega))]; go_simp
  have q10_w1 : w1.cell? ⟨w.heap.size, 10, none⟩ = some (.bool false) := by rw [k_w1 _ _ (by first | omega | (simp; done) | (simp; omega))]; go_simp
  have X_w1 := Lib.hid (show Ext w w1 from Ext.trans (by (repeat' (with_reducible first | refine Ext.drew ?_ | refine Ext.drewN ?_ _ | refine Ext.alloc ?_ _ | exact Ext.refl _ | fail | (refine Ext.setCell ?_ ?_ _; rotate_left; (focus ((try simp); try omega)))))) x_w1)
  clear x_w1 s_w1
  go_wp2_with fail
  refine (c2.out _).mono ?_; rintro e w' ⟨rfl, rfl⟩
  go_wp2_with fail
  refine (c3.out _).mono ?_; rintro e w' ⟨rfl, rfl⟩
  go_wp2_with fail
  refine ((guard_rebased lo hi wa ri ba bs cn il (qu + 1) 0 r false _)).mono ?_; rintro e w3 ⟨rfl, x_w3⟩
  obtain ⟨k_w3, f_w3⟩ := bcell x_w3
  have X_w3 := Lib.hid (show Ext w w3 from Ext.trans (by (repeat' (with_reducible first | refine Ext.drew ?_ | refine Ext.drewN ?_ _ | refine Ext.alloc ?_ _ | exact Ext.refl _ | exact X_w1.out | (refine Ext.setCell ?_ ?_ _; rotate_left; (focus ((try simp); try omega)))))) x_w3)
  clear x_w3
  go_wp2_with fail
  exact bodyPost_ret (v := .tuple #[.agg #[.int .i64 lo, .int .i64 hi, .int .i64 wa, .int .i64 ri, .int .i64 ba, .int .i64 r, .int .i64 0, .int .i64 il, .int .i64 (qu + 1), .int .i64 0, .bool false], .int .i64 0]) (by simp [results, Try.results25, go_sem, *]) rfl ⟨rfl, by (repeat' (with_reducible first | refine Ext.drew ?_ | refine Ext.drewN ?_ _ | refine Ext.alloc ?_ _ | exact Ext.refl _ | exact X_w3.out | exact X_w1.out | (refine Ext.setCell ?_ ?_ _; rotate_left; (focus ((try simp); try omega)))))⟩
set_option maxHeartbeats 4000000 in
theorem guard_Step_near (lo hi wa ri ba bs cn il qu r t d : Int) (h : GVal lo hi wa ri ba bs cn il qu 0) (r0 : lo ≤ r) (r1 : r ≤ hi) (hq : qu + 1 < il) (d' t' : Int) (hd : d' = max 0 (min d 255)) (ht : t' = max (-1073741824) (min t 1073741824)) (h0 : d' ≠ 0) (h1 : t' - ba ≤ r) (w : World) :
    Calls Try.prog 25 #[.agg #[.int .i64 lo, .int .i64 hi, .int .i64 wa, .int .i64 ri, .int .i64 ba, .int .i64 bs, .int .i64 cn, .int .i64 il, .int .i64 qu, .int .i64 0, .bool false], .int .i64 r, .int .i64 t, .int .i64 d] w fun e w' => e = .returned (.tuple #[.agg #[.int .i64 lo, .int .i64 hi, .int .i64 wa, .int .i64 ri, .int .i64 ba, .int .i64 r, .int .i64 0, .int .i64 il, .int .i64 (qu + 1), .int .i64 0, .bool false], .int .i64 d']) ∧ Ext w w' := by
  have c1 := Lib.hid fun w => guard_GValid lo hi wa ri ba bs cn il qu 0 false true (by rw [decide_eq_true h]) w
  obtain ⟨b0, b1, b2, b3, b4, b5, b6, b7, b8, b9, b10, b11, b12, b13, b14, b15⟩ := gbnd h
  have q1 : IntKind.i64.wrap (qu + 1) = qu + 1 := IntWalk.i64_in _ (by omega)
  have d1 := dlt_f r0
  have d2 := dlt_f r1
  have d3 := dle_f (show qu + 1 < il by omega)
  have c2 := Lib.hid fun w => num_Clamp d 0 255 w
  have c3 := Lib.hid fun w => num_Clamp t (-1073741824) 1073741824 w
  rw [← hd] at c2
  rw [← ht] at c3
  have tb : IntKind.i64.wrap (t' - ba) = t' - ba := IntWalk.i64_in _ (by omega)
  have d4 := beq_f h0
  have d5 := dle_t h1
  clear hd ht h0 h1
  clear b0 b1 b2 b3 b4 b5 b6 b7 b8 b9 b10 b11 b12 b13 b14 b15 h
  go_enter Try.func25, Try.ntmps25
  go_wp2_with fail
  refine (c1.out _).mono ?_; rintro e w1 ⟨rfl, x_w1⟩
  obtain ⟨k_w1, f_w1⟩ := bcell x_w1
  have s_w1 := x_w1.size; (try simp at s_w1)
  have z0_w1 : w.heap.size < w1.heap.size := by omega
  have z1_w1 : w.heap.size + 1 < w1.heap.size := by omega
  have q0_w1 : w1.cell? ⟨w.heap.size, 0, none⟩ = some (.int .i64 lo) := by rw [k_w1 _ _ (by first | omega | (simp; done) | (simp; omega))]; go_simp
  have q1_w1 : w1.cell? ⟨w.heap.size, 1, none⟩ = some (.int .i64 hi) := by rw [k_w1 _ _ (by first | omega | (simp; done) | (simp; omega))]; go_simp
  have q2_w1 : w1.cell? ⟨w.heap.size, 2, none⟩ = some (.int .i64 wa) := by rw [k_w1 _ _ (by first | omega | (simp; done) | (simp; omega))]; go_simp
  have q3_w1 : w1.cell? ⟨w.heap.size, 3, none⟩ = some (.int .i64 ri) := by rw [k_w1 _ _ (by first | omega | (simp; done) | (simp; omega))]; go_simp
  have q4_w1 : w1.cell? ⟨w.heap.size, 4, none⟩ = some (.int .i64 ba) := by rw [k_w1 _ _ (by first | omega | (simp; done) | (simp; omega))]; go_simp
  have q5_w1 : w1.cell? ⟨w.heap.size, 5, none⟩ = some (.int .i64 bs) := by rw [k_w1 _ _ (by first | omega | (simp; done) | (simp; omega))]; go_simp
  have q6_w1 : w1.cell? ⟨w.heap.size, 6, none⟩ = some (.int .i64 cn) := by rw [k_w1 _ _ (by first | omega | (simp; done) | (simp; omega))]; go_simp
  have q7_w1 : w1.cell? ⟨w.heap.size, 7, none⟩ = some (.int .i64 il) := by rw [k_w1 _ _ (by first | omega | (simp; done) | (simp; omega))]; go_simp
  have q8_w1 : w1.cell? ⟨w.heap.size, 8, none⟩ = some (.int .i64 qu) := by rw [k_w1 _ _ (by first | omega | (simp; done) | (simp; omega))]; go_simp
  have q9_w1 : w1.cell? ⟨w.heap.size, 9, none⟩ = some (.int .i64 0) := by rw [k_w1 _ _ (by first | omega | (simp; done) | (simp; omega))]; go_simp
  have q10_w1 : w1.cell? ⟨w.heap.size, 10, none⟩ = some (.bool false) := by rw [k_w1 _ _ (by first | omega | (simp; done) | (simp; omega))]; go_simp
  have X_w1 := Lib.hid (show Ext w w1 from Ext.trans (by (repeat' (with_reducible first | refine Ext.drew ?_ | refine Ext.drewN ?_ _ | refine Ext.alloc ?_ _ | exact Ext.refl _ | fail | (refine Ext.setCell ?_ ?_ _; rotate_left; (focus ((try simp); try omega)))))) x_w1)
  clear x_w1 s_w1
  go_wp2_with fail
  refine (c2.out _).mono ?_; rintro e w' ⟨rfl, rfl⟩
  go_wp2_with fail
  refine (c3.out _).mono ?_; rintro e w' ⟨rfl, rfl⟩
  go_wp2_with fail
  refine ((guard_rebased lo hi wa ri ba bs cn il (qu + 1) 0 r false _)).mono ?_; rintro e w3 ⟨rfl, x_w3⟩
  obtain ⟨k_w3, f_w3⟩ := bcell x_w3
  have X_w3 := Lib.hid (show Ext w w3 from Ext.trans (by (repeat' (with_reducible first | refine Ext.drew ?_ | refine Ext.drewN ?_ _ | refine Ext.alloc ?_ _ | exact Ext.refl _ | exact X_w1.out | (refine Ext.setCell ?_ ?_ _; rotate_left; (focus ((try simp); try omega)))))) x_w3)
  clear x_w3
  go_wp2_with fail
  exact bodyPost_ret (v := .tuple #[.agg #[.int .i64 lo, .int .i64 hi, .int .i64 wa, .int .i64 ri, .int .i64 ba, .int .i64 r, .int .i64 0, .int .i64 il, .int .i64 (qu + 1), .int .i64 0, .bool false], .int .i64 d']) (by simp [results, Try.results25, go_sem, *]) rfl ⟨rfl, by (repeat' (with_reducible first | refine Ext.drew ?_ | refine Ext.drewN ?_ _ | refine Ext.alloc ?_ _ | exact Ext.refl _ | exact X_w3.out | exact X_w1.out | (refine Ext.setCell ?_ ?_ _; rotate_left; (focus ((try simp); try omega)))))⟩
set_option maxHeartbeats 4000000 in
theorem guard_Step_rise_no (lo hi wa ri ba bs cn il qu r t d : Int) (h : GVal lo hi wa ri ba bs cn il qu 0) (r0 : lo ≤ r) (r1 : r ≤ hi) (hq : qu + 1 < il) (d' t' : Int) (hd : d' = max 0 (min d 255)) (ht : t' = max (-1073741824) (min t 1073741824)) (h0 : d' ≠ 0) (h1 : r < t' - ba) (h4 : bs + ri ≤ r) (h5 : wa ≤ 1) (w : World) :
    Calls Try.prog 25 #[.agg #[.int .i64 lo, .int .i64 hi, .int .i64 wa, .int .i64 ri, .int .i64 ba, .int .i64 bs, .int .i64 cn, .int .i64 il, .int .i64 qu, .int .i64 0, .bool false], .int .i64 r, .int .i64 t, .int .i64 d] w fun e w' => e = .returned (.tuple #[.agg #[.int .i64 lo, .int .i64 hi, .int .i64 wa, .int .i64 ri, .int .i64 ba, .int .i64 r, .int .i64 wa, .int .i64 il, .int .i64 (qu + 1), .int .i64 3, .bool false], .int .i64 0]) ∧ Ext w w' := by
  have c1 := Lib.hid fun w => guard_GValid lo hi wa ri ba bs cn il qu 0 false true (by rw [decide_eq_true h]) w
  obtain ⟨b0, b1, b2, b3, b4, b5, b6, b7, b8, b9, b10, b11, b12, b13, b14, b15⟩ := gbnd h
  have q1 : IntKind.i64.wrap (qu + 1) = qu + 1 := IntWalk.i64_in _ (by omega)
  have d1 := dlt_f r0
  have d2 := dlt_f r1
  have d3 := dle_f (show qu + 1 < il by omega)
  have c2 := Lib.hid fun w => num_Clamp d 0 255 w
  have c3 := Lib.hid fun w => num_Clamp t (-1073741824) 1073741824 w
  rw [← hd] at c2
  rw [← ht] at c3
  have tb : IntKind.i64.wrap (t' - ba) = t' - ba := IntWalk.i64_in _ (by omega)
  have d4 := beq_f h0
  have d5 := dle_f h1
  have cw := Lib.hid fun w => guard_watch_rise_no lo hi wa ri ba bs cn il (qu + 1) r d' false (by omega) (by omega) (by omega) h4 h5 w
  clear hd ht h0 h1
  clear b0 b1 b2 b3 b4 b5 b6 b7 b8 b9 b10 b11 b12 b13 b14 b15 h
  go_enter Try.func25, Try.ntmps25
  go_wp2_with fail
  refine (c1.out _).mono ?_; rintro e w1 ⟨rfl, x_w1⟩
  obtain ⟨k_w1, f_w1⟩ := bcell x_w1
  have s_w1 := x_w1.size; (try simp at s_w1)
  have z0_w1 : w.heap.size < w1.heap.size := by omega
  have z1_w1 : w.heap.size + 1 < w1.heap.size := by omega
  have q0_w1 : w1.cell? ⟨w.heap.size, 0, none⟩ = some (.int .i64 lo) := by rw [k_w1 _ _ (by first | omega | (simp; done) | (simp; omega))]; go_simp
  have q1_w1 : w1.cell? ⟨w.heap.size, 1, none⟩ = some (.int .i64 hi) := by rw [k_w1 _ _ (by first | omega | (simp; done) | (simp; omega))]; go_simp
  have q2_w1 : w1.cell? ⟨w.heap.size, 2, none⟩ = some (.int .i64 wa) := by rw [k_w1 _ _ (by first | omega | (simp; done) | (simp; omega))]; go_simp
  have q3_w1 : w1.cell? ⟨w.heap.size, 3, none⟩ = some (.int .i64 ri) := by rw [k_w1 _ _ (by first | omega | (simp; done) | (simp; omega))]; go_simp
  have q4_w1 : w1.cell? ⟨w.heap.size, 4, none⟩ = some (.int .i64 ba) := by rw [k_w1 _ _ (by first | omega | (simp; done) | (simp; omega))]; go_simp
  have q5_w1 : w1.cell? ⟨w.heap.size, 5, none⟩ = some (.int .i64 bs) := by rw [k_w1 _ _ (by first | omega | (simp; done) | (simp; omega))]; go_simp
  have q6_w1 : w1.cell? ⟨w.heap.size, 6, none⟩ = some (.int .i64 cn) := by rw [k_w1 _ _ (by first | omega | (simp; done) | (simp; omega))]; go_simp
  have q7_w1 : w1.cell? ⟨w.heap.size, 7, none⟩ = some (.int .i64 il) := by rw [k_w1 _ _ (by first | omega | (simp; done) | (simp; omega))]; go_simp
  have q8_w1 : w1.cell? ⟨w.heap.size, 8, none⟩ = some (.int .i64 qu) := by rw [k_w1 _ _ (by first | omega | (simp; done) | (simp; omega))]; go_simp
  have q9_w1 : w1.cell? ⟨w.heap.size, 9, none⟩ = some (.int .i64 0) := by rw [k_w1 _ _ (by first | omega | (simp; done) | (simp; omega))]; go_simp
  have q10_w1 : w1.cell? ⟨w.heap.size, 10, none⟩ = some (.bool false) := by rw [k_w1 _ _ (by first | omega | (simp; done) | (simp; omega))]; go_simp
  have X_w1 := Lib.hid (show Ext w w1 from Ext.trans (by (repeat' (with_reducible first | refine Ext.drew ?_ | refine Ext.drewN ?_ _ | refine Ext.alloc ?_ _ | exact Ext.refl _ | fail | (refine Ext.setCell ?_ ?_ _; rotate_left; (focus ((try simp); try omega)))))) x_w1)
  clear x_w1 s_w1
  go_wp2_with fail
  refine (c2.out _).mono ?_; rintro e w' ⟨rfl, rfl⟩
  go_wp2_with fail
  refine (c3.out _).mono ?_; rintro e w' ⟨rfl, rfl⟩
  go_wp2_with fail
  refine (cw.out _).mono ?_; rintro e w3 ⟨rfl, x_w3⟩
  obtain ⟨k_w3, f_w3⟩ := bcell x_w3
  have X_w3 := Lib.hid (show Ext w w3 from Ext.trans (by (repeat' (with_reducible first | refine Ext.drew ?_ | refine Ext.drewN ?_ _ | refine Ext.alloc ?_ _ | exact Ext.refl _ | exact X_w1.out | (refine Ext.setCell ?_ ?_ _; rotate_left; (focus ((try simp); try omega)))))) x_w3)
  clear x_w3
  go_wp2_with fail
  exact bodyPost_ret (v := .tuple #[.agg #[.int .i64 lo, .int .i64 hi, .int .i64 wa, .int .i64 ri, .int .i64 ba, .int .i64 r, .int .i64 wa, .int .i64 il, .int .i64 (qu + 1), .int .i64 3, .bool false], .int .i64 0]) (by simp [results, Try.results25, go_sem, *]) rfl ⟨rfl, by (repeat' (with_reducible first | refine Ext.drew ?_ | refine Ext.drewN ?_ _ | refine Ext.alloc ?_ _ | exact Ext.refl _ | exact X_w3.out | exact X_w1.out | (refine Ext.setCell ?_ ?_ _; rotate_left; (focus ((try simp); try omega)))))⟩
set_option maxHeartbeats 4000000 in
theorem guard_Step_rise (lo hi wa ri ba bs cn il qu r t d : Int) (h : GVal lo hi wa ri ba bs cn il qu 0) (r0 : lo ≤ r) (r1 : r ≤ hi) (hq : qu + 1 < il) (d' t' : Int) (hd : d' = max 0 (min d 255)) (ht : t' = max (-1073741824) (min t 1073741824)) (h0 : d' ≠ 0) (h1 : r < t' - ba) (h4 : bs + ri ≤ r) (h5 : 1 < wa) (w : World) :
    Calls Try.prog 25 #[.agg #[.int .i64 lo, .int .i64 hi, .int .i64 wa, .int .i64 ri, .int .i64 ba, .int .i64 bs, .int .i64 cn, .int .i64 il, .int .i64 qu, .int .i64 0, .bool false], .int .i64 r, .int .i64 t, .int .i64 d] w fun e w' => e = .returned (.tuple #[.agg #[.int .i64 lo, .int .i64 hi, .int .i64 wa, .int .i64 ri, .int .i64 ba, .int .i64 r, .int .i64 1, .int .i64 il, .int .i64 (qu + 1), .int .i64 0, .bool false], .int .i64 d']) ∧ Ext w w' := by
  have c1 := Lib.hid fun w => guard_GValid lo hi wa ri ba bs cn il qu 0 false true (by rw [decide_eq_true h]) w
  obtain ⟨b0, b1, b2, b3, b4, b5, b6, b7, b8, b9, b10, b11, b12, b13, b14, b15⟩ := gbnd h
  have q1 : IntKind.i64.wrap (qu + 1) = qu + 1 := IntWalk.i64_in _ (by omega)
  have d1 := dlt_f r0
  have d2 := dlt_f r1
  have d3 := dle_f (show qu + 1 < il by omega)
  have c2 := Lib.hid fun w => num_Clamp d 0 255 w
  have c3 := Lib.hid fun w => num_Clamp t (-1073741824) 1073741824 w
  rw [← hd] at c2
  rw [← ht] at c3
  have tb : IntKind.i64.wrap (t' - ba) = t' - ba := IntWalk.i64_in _ (by omega)
  have d4 := beq_f h0
  have d5 := dle_f h1
  have cw := Lib.hid fun w => guard_watch_rise lo hi wa ri ba bs cn il (qu + 1) r d' false (by omega) (by omega) (by omega) h4 h5 w
  clear hd ht h0 h1
  clear b0 b1 b2 b3 b4 b5 b6 b7 b8 b9 b10 b11 b12 b13 b14 b15 h
  go_enter Try.func25, Try.ntmps25
  go_wp2_with fail
  refine (c1.out _).mono ?_; rintro e w1 ⟨rfl, x_w1⟩
  obtain ⟨k_w1, f_w1⟩ := bcell x_w1
  have s_w1 := x_w1.size; (try simp at s_w1)
  have z0_w1 : w.heap.size < w1.heap.size := by omega
  have z1_w1 : w.heap.size + 1 < w1.heap.size := by omega
  have q0_w1 : w1.cell? ⟨w.heap.size, 0, none⟩ = some (.int .i64 lo) := by rw [k_w1 _ _ (by first | omega | (simp; done) | (simp; omega))]; go_simp
  have q1_w1 : w1.cell? ⟨w.heap.size, 1, none⟩ = some (.int .i64 hi) := by rw [k_w1 _ _ (by first | omega | (simp; done) | (simp; omega))]; go_simp
  have q2_w1 : w1.cell? ⟨w.heap.size, 2, none⟩ = some (.int .i64 wa) := by rw [k_w1 _ _ (by first | omega | (simp; done) | (simp; omega))]; go_simp
  have q3_w1 : w1.cell? ⟨w.heap.size, 3, none⟩ = some (.int .i64 ri) := by rw [k_w1 _ _ (by first | omega | (simp; done) | (simp; omega))]; go_simp
  have q4_w1 : w1.cell? ⟨w.heap.size, 4, none⟩ = some (.int .i64 ba) := by rw [k_w1 _ _ (by first | omega | (simp; done) | (simp; omega))]; go_simp
  have q5_w1 : w1.cell? ⟨w.heap.size, 5, none⟩ = some (.int .i64 bs) := by rw [k_w1 _ _ (by first | omega | (simp; done) | (simp; omega))]; go_simp
  have q6_w1 : w1.cell? ⟨w.heap.size, 6, none⟩ = some (.int .i64 cn) := by rw [k_w1 _ _ (by first | omega | (simp; done) | (simp; omega))]; go_simp
  have q7_w1 : w1.cell? ⟨w.heap.size, 7, none⟩ = some (.int .i64 il) := by rw [k_w1 _ _ (by first | omega | (simp; done) | (simp; omega))]; go_simp
  have q8_w1 : w1.cell? ⟨w.heap.size, 8, none⟩ = some (.int .i64 qu) := by rw [k_w1 _ _ (by first | omega | (simp; done) | (simp; omega))]; go_simp
  have q9_w1 : w1.cell? ⟨w.heap.size, 9, none⟩ = some (.int .i64 0) := by rw [k_w1 _ _ (by first | omega | (simp; done) | (simp; omega))]; go_simp
  have q10_w1 : w1.cell? ⟨w.heap.size, 10, none⟩ = some (.bool false) := by rw [k_w1 _ _ (by first | omega | (simp; done) | (simp; omega))]; go_simp
  have X_w1 := Lib.hid (show Ext w w1 from Ext.trans (by (repeat' (with_reducible first | refine Ext.drew ?_ | refine Ext.drewN ?_ _ | refine Ext.alloc ?_ _ | exact Ext.refl _ | fail | (refine Ext.setCell ?_ ?_ _; rotate_left; (focus ((try simp); try omega)))))) x_w1)
  clear x_w1 s_w1
  go_wp2_with fail
  refine (c2.out _).mono ?_; rintro e w' ⟨rfl, rfl⟩
  go_wp2_with fail
  refine (c3.out _).mono ?_; rintro e w' ⟨rfl, rfl⟩
  go_wp2_with fail
  refine (cw.out _).mono ?_; rintro e w3 ⟨rfl, x_w3⟩
  obtain ⟨k_w3, f_w3⟩ := bcell x_w3
  have X_w3 := Lib.hid (show Ext w w3 from Ext.trans (by (repeat' (with_reducible first | refine Ext.drew ?_ | refine Ext.drewN ?_ _ | refine Ext.alloc ?_ _ | exact Ext.refl _ | exact X_w1.out | (refine Ext.setCell ?_ ?_ _; rotate_left; (focus ((try simp); try omega)))))) x_w3)
  clear x_w3
  go_wp2_with fail
  exact bodyPost_ret (v := .tuple #[.agg #[.int .i64 lo, .int .i64 hi, .int .i64 wa, .int .i64 ri, .int .i64 ba, .int .i64 r, .int .i64 1, .int .i64 il, .int .i64 (qu + 1), .int .i64 0, .bool false], .int .i64 d']) (by simp [results, Try.results25, go_sem, *]) rfl ⟨rfl, by (repeat' (with_reducible first | refine Ext.drew ?_ | refine Ext.drewN ?_ _ | refine Ext.alloc ?_ _ | exact Ext.refl _ | exact X_w3.out | exact X_w1.out | (refine Ext.setCell ?_ ?_ _; rotate_left; (focus ((try simp); try omega)))))⟩
set_option maxHeartbeats 4000000 in
theorem guard_Step_stay_no (lo hi wa ri ba bs cn il qu r t d : Int) (h : GVal lo hi wa ri ba bs cn il qu 0) (r0 : lo ≤ r) (r1 : r ≤ hi) (hq : qu + 1 < il) (d' t' : Int) (hd : d' = max 0 (min d 255)) (ht : t' = max (-1073741824) (min t 1073741824)) (h0 : d' ≠ 0) (h1 : r < t' - ba) (h4 : r < bs + ri) (h5 : wa ≤ cn + 1) (w : World) :
    Calls Try.prog 25 #[.agg #[.int .i64 lo, .int .i64 hi, .int .i64 wa, .int .i64 ri, .int .i64 ba, .int .i64 bs, .int .i64 cn, .int .i64 il, .int .i64 qu, .int .i64 0, .bool false], .int .i64 r, .int .i64 t, .int .i64 d] w fun e w' => e = .returned (.tuple #[.agg #[.int .i64 lo, .int .i64 hi, .int .i64 wa, .int .i64 ri, .int .i64 ba, .int .i64 bs, .int .i64 wa, .int .i64 il, .int .i64 (qu + 1), .int .i64 3, .bool false], .int .i64 0]) ∧ Ext w w' := by
  have c1 := Lib.hid fun w => guard_GValid lo hi wa ri ba bs cn il qu 0 false true (by rw [decide_eq_true h]) w
  obtain ⟨b0, b1, b2, b3, b4, b5, b6, b7, b8, b9, b10, b11, b12, b13, b14, b15⟩ := gbnd h
  have q1 : IntKind.i64.wrap (qu + 1) = qu + 1 := IntWalk.i64_in _ (by omega)
  have d1 := dlt_f r0
  have d2 := dlt_f r1
  have d3 := dle_f (show qu + 1 < il by omega)
  have c2 := Lib.hid fun w => num_Clamp d 0 255 w
  have c3 := Lib.hid fun w => num_Clamp t (-1073741824) 1073741824 w
  rw [← hd] at c2
  rw [← ht] at c3
  have tb : IntKind.i64.wrap (t' - ba) = t' - ba := IntWalk.i64_in _ (by omega)
  have d4 := beq_f h0
  have d5 := dle_f h1
  have cw := Lib.hid fun w => guard_watch_stay_no lo hi wa ri ba bs cn il (qu + 1) r d' false (by omega) (by omega) (by omega) h4 h5 w
  clear hd ht h0 h1
  clear b0 b1 b2 b3 b4 b5 b6 b7 b8 b9 b10 b11 b12 b13 b14 b15 h
  go_enter Try.func25, Try.ntmps25
  go_wp2_with fail
  refine (c1.out _).mono ?_; rintro e w1 ⟨rfl, x_w1⟩
  obtain ⟨k_w1, f_w1⟩ := bcell x_w1
  have s_w1 := x_w1.size; (try simp at s_w1)
  have z0_w1 : w.heap.size < w1.heap.size := by omega
  have z1_w1 : w.heap.size + 1 < w1.heap.size := by omega
  have q0_w1 : w1.cell? ⟨w.heap.size, 0, none⟩ = some (.int .i64 lo) := by rw [k_w1 _ _ (by first | omega | (simp; done) | (simp; omega))]; go_simp
  have q1_w1 : w1.cell? ⟨w.heap.size, 1, none⟩ = some (.int .i64 hi) := by rw [k_w1 _ _ (by first | omega | (simp; done) | (simp; omega))]; go_simp
  have q2_w1 : w1.cell? ⟨w.heap.size, 2, none⟩ = some (.int .i64 wa) := by rw [k_w1 _ _ (by first | omega | (simp; done) | (simp; omega))]; go_simp
  have q3_w1 : w1.cell? ⟨w.heap.size, 3, none⟩ = some (.int .i64 ri) := by rw [k_w1 _ _ (by first | omega | (simp; done) | (simp; omega))]; go_simp
  have q4_w1 : w1.cell? ⟨w.heap.size, 4, none⟩ = some (.int .i64 ba) := by rw [k_w1 _ _ (by first | omega | (simp; done) | (simp; omega))]; go_simp
  have q5_w1 : w1.cell? ⟨w.heap.size, 5, none⟩ = some (.int .i64 bs) := by rw [k_w1 _ _ (by first | omega | (simp; done) | (simp; omega))]; go_simp
  have q6_w1 : w1.cell? ⟨w.heap.size, 6, none⟩ = some (.int .i64 cn) := by rw [k_w1 _ _ (by first | omega | (simp; done) | (simp; omega))]; go_simp
  have q7_w1 : w1.cell? ⟨w.heap.size, 7, none⟩ = some (.int .i64 il) := by rw [k_w1 _ _ (by first | omega | (simp; done) | (simp; omega))]; go_simp
  have q8_w1 : w1.cell? ⟨w.heap.size, 8, none⟩ = some (.int .i64 qu) := by rw [k_w1 _ _ (by first | omega | (simp; done) | (simp; omega))]; go_simp
  have q9_w1 : w1.cell? ⟨w.heap.size, 9, none⟩ = some (.int .i64 0) := by rw [k_w1 _ _ (by first | omega | (simp; done) | (simp; omega))]; go_simp
  have q10_w1 : w1.cell? ⟨w.heap.size, 10, none⟩ = some (.bool false) := by rw [k_w1 _ _ (by first | omega | (simp; done) | (simp; omega))]; go_simp
  have X_w1 := Lib.hid (show Ext w w1 from Ext.trans (by (repeat' (with_reducible first | refine Ext.drew ?_ | refine Ext.drewN ?_ _ | refine Ext.alloc ?_ _ | exact Ext.refl _ | fail | (refine Ext.setCell ?_ ?_ _; rotate_left; (focus ((try simp); try omega)))))) x_w1)
  clear x_w1 s_w1
  go_wp2_with fail
  refine (c2.out _).mono ?_; rintro e w' ⟨rfl, rfl⟩
  go_wp2_with fail
  refine (c3.out _).mono ?_; rintro e w' ⟨rfl, rfl⟩
  go_wp2_with fail
  refine (cw.out _).mono ?_; rintro e w3 ⟨rfl, x_w3⟩
  obtain ⟨k_w3, f_w3⟩ := bcell x_w3
  have X_w3 := Lib.hid (show Ext w w3 from Ext.trans (by (repeat' (with_reducible first | refine Ext.drew ?_ | refine Ext.drewN ?_ _ | refine Ext.alloc ?_ _ | exact Ext.refl _ | exact X_w1.out | (refine Ext.setCell ?_ ?_ _; rotate_left; (focus ((try simp); try omega)))))) x_w3)
  clear x_w3
  go_wp2_with fail
  exact bodyPost_ret (v := .tuple #[.agg #[.int .i64 lo, .int .i64 hi, .int .i64 wa, .int .i64 ri, .int .i64 ba, .int .i64 bs, .int .i64 wa, .int .i64 il, .int .i64 (qu + 1), .int .i64 3, .bool false], .int .i64 0]) (by simp [results, Try.results25, go_sem, *]) rfl ⟨rfl, by (repeat' (with_reducible first | refine Ext.drew ?_ | refine Ext.drewN ?_ _ | refine Ext.alloc ?_ _ | exact Ext.refl _ | exact X_w3.out | exact X_w1.out | (refine Ext.setCell ?_ ?_ _; rotate_left; (focus ((try simp); try omega)))))⟩
set_option maxHeartbeats 4000000 in
theorem guard_Step_stay (lo hi wa ri ba bs cn il qu r t d : Int) (h : GVal lo hi wa ri ba bs cn il qu 0) (r0 : lo ≤ r) (r1 : r ≤ hi) (hq : qu + 1 < il) (d' t' : Int) (hd : d' = max 0 (min d 255)) (ht : t' = max (-1073741824) (min t 1073741824)) (h0 : d' ≠ 0) (h1 : r < t' - ba) (h4 : r < bs + ri) (h5 : cn + 1 < wa) (w : World) :
    Calls Try.prog 25 #[.agg #[.int .i64 lo, .int .i64 hi, .int .i64 wa, .int .i64 ri, .int .i64 ba, .int .i64 bs, .int .i64 cn, .int .i64 il, .int .i64 qu, .int .i64 0, .bool false], .int .i64 r, .int .i64 t, .int .i64 d] w fun e w' => e = .returned (.tuple #[.agg #[.int .i64 lo, .int .i64 hi, .int .i64 wa, .int .i64 ri, .int .i64 ba, .int .i64 bs, .int .i64 (cn + 1), .int .i64 il, .int .i64 (qu + 1), .int .i64 0, .bool false], .int .i64 d']) ∧ Ext w w' := by
  have c1 := Lib.hid fun w => guard_GValid lo hi wa ri ba bs cn il qu 0 false true (by rw [decide_eq_true h]) w
  obtain ⟨b0, b1, b2, b3, b4, b5, b6, b7, b8, b9, b10, b11, b12, b13, b14, b15⟩ := gbnd h
  have q1 : IntKind.i64.wrap (qu + 1) = qu + 1 := IntWalk.i64_in _ (by omega)
  have d1 := dlt_f r0
  have d2 := dlt_f r1
  have d3 := dle_f (show qu + 1 < il by omega)
  have c2 := Lib.hid fun w => num_Clamp d 0 255 w
  have c3 := Lib.hid fun w => num_Clamp t (-1073741824) 1073741824 w
  rw [← hd] at c2
  rw [← ht] at c3
  have tb : IntKind.i64.wrap (t' - ba) = t' - ba := IntWalk.i64_in _ (by omega)
  have d4 := beq_f h0
  have d5 := dle_f h1
  have cw := Lib.hid fun w => guard_watch_stay lo hi wa ri ba bs cn il (qu + 1) r d' false (by omega) (by omega) (by omega) h4 h5 w
  clear hd ht h0 h1
  clear b0 b1 b2 b3 b4 b5 b6 b7 b8 b9 b10 b11 b12 b13 b14 b15 h
  go_enter Try.func25, Try.ntmps25
  go_wp2_with fail
  refine (c1.out _).mono ?_; rintro e w1 ⟨rfl, x_w1⟩
  obtain ⟨k_w1, f_w1⟩ := bcell x_w1
  have s_w1 := x_w1.size; (try simp at s_w1)
  have z0_w1 : w.heap.size < w1.heap.size := by omega
  have z1_w1 : w.heap.size + 1 < w1.heap.size := by omega
  have q0_w1 : w1.cell? ⟨w.heap.size, 0, none⟩ = some (.int .i64 lo) := by rw [k_w1 _ _ (by first | omega | (simp; done) | (simp; omega))]; go_simp
  have q1_w1 : w1.cell? ⟨w.heap.size, 1, none⟩ = some (.int .i64 hi) := by rw [k_w1 _ _ (by first | omega | (simp; done) | (simp; omega))]; go_simp
  have q2_w1 : w1.cell? ⟨w.heap.size, 2, none⟩ = some (.int .i64 wa) := by rw [k_w1 _ _ (by first | omega | (simp; done) | (simp; omega))]; go_simp
  have q3_w1 : w1.cell? ⟨w.heap.size, 3, none⟩ = some (.int .i64 ri) := by rw [k_w1 _ _ (by first | omega | (simp; done) | (simp; omega))]; go_simp
  have q4_w1 : w1.cell? ⟨w.heap.size, 4, none⟩ = some (.int .i64 ba) := by rw [k_w1 _ _ (by first | omega | (simp; done) | (simp; omega))]; go_simp
  have q5_w1 : w1.cell? ⟨w.heap.size, 5, none⟩ = some (.int .i64 bs) := by rw [k_w1 _ _ (by first | omega | (simp; done) | (simp; omega))]; go_simp
  have q6_w1 : w1.cell? ⟨w.heap.size, 6, none⟩ = some (.int .i64 cn) := by rw [k_w1 _ _ (by first | omega | (simp; done) | (simp; omega))]; go_simp
  have q7_w1 : w1.cell? ⟨w.heap.size, 7, none⟩ = some (.int .i64 il) := by rw [k_w1 _ _ (by first | omega | (simp; done) | (simp; omega))]; go_simp
  have q8_w1 : w1.cell? ⟨w.heap.size, 8, none⟩ = some (.int .i64 qu) := by rw [k_w1 _ _ (by first | omega | (simp; done) | (simp; omega))]; go_simp
  have q9_w1 : w1.cell? ⟨w.heap.size, 9, none⟩ = some (.int .i64 0) := by rw [k_w1 _ _ (by first | omega | (simp; done) | (simp; omega))]; go_simp
  have q10_w1 : w1.cell? ⟨w.heap.size, 10, none⟩ = some (.bool false) := by rw [k_w1 _ _ (by first | omega | (simp; done) | (simp; omega))]; go_simp
  have X_w1 := Lib.hid (show Ext w w1 from Ext.trans (by (repeat' (with_reducible first | refine Ext.drew ?_ | refine Ext.drewN ?_ _ | refine Ext.alloc ?_ _ | exact Ext.refl _ | fail | (refine Ext.setCell ?_ ?_ _; rotate_left; (focus ((try simp); try omega)))))) x_w1)
  clear x_w1 s_w1
  go_wp2_with fail
  refine (c2.out _).mono ?_; rintro e w' ⟨rfl, rfl⟩
  go_wp2_with fail
  refine (c3.out _).mono ?_; rintro e w' ⟨rfl, rfl⟩
  go_wp2_with fail
  refine (cw.out _).mono ?_; rintro e w3 ⟨rfl, x_w3⟩
  obtain ⟨k_w3, f_w3⟩ := bcell x_w3
  have X_w3 := Lib.hid (show Ext w w3 from Ext.trans (by (repeat' (with_reducible first | refine Ext.drew ?_ | refine Ext.drewN ?_ _ | refine Ext.alloc ?_ _ | exact Ext.refl _ | exact X_w1.out | (refine Ext.setCell ?_ ?_ _; rotate_left; (focus ((try simp); try omega)))))) x_w3)
  clear x_w3
  go_wp2_with fail
  exact bodyPost_ret (v := .tuple #[.agg #[.int .i64 lo, .int .i64 hi, .int .i64 wa, .int .i64 ri, .int .i64 ba, .int .i64 bs, .int .i64 (cn + 1), .int .i64 il, .int .i64 (qu + 1), .int .i64 0, .bool false], .int .i64 d']) (by simp [results, Try.results25, go_sem, *]) rfl ⟨rfl, by (repeat' (with_reducible first | refine Ext.drew ?_ | refine Ext.drewN ?_ _ | refine Ext.alloc ?_ _ | exact Ext.refl _ | exact X_w3.out | exact X_w1.out | (refine Ext.setCell ?_ ?_ _; rotate_left; (focus ((try simp); try omega)))))⟩
end Go.Proofs.Ytnmjikaojoaaaaa

