/-
  The contract of package num's Format, and of 'awake': the chapter's examples are reproduced, in every world in which the table of powers of ten lies as the program's text lays it.
-/
import Derived.Test.YtflalomgifeaaaaDoorNumC
import Derived.Test.YtflalomgifeaaaaDoorNumD
import Derived.Test.YtflalomgifeaaaaDoorNumP
namespace Go.Proofs.YtflalomgifeaaaaDoor
open Go.RowKit
/-- The library's table of powers of ten lies as its text lays it. -/
def Tab (w : World) : Prop := Lib.TabIs Tryd.prog w "internal/strconv.uint64pow10" .u64 Lib.pow10Tab
theorem Tab.ext {w w' : World} (h : Tab w) (e : Ext w w') : Tab w' := e.tab h
/-- additive/num.Format -/
theorem num_Format (n : Int) (h0 : -9223372036854775808 ≤ n) (h1 : n ≤ 9223372036854775807) (w : World) (ht : Tab w) :
    Calls Tryd.prog 27 #[.int .i64 n] w fun e w' => e = .returned (.string ⟨(Lib.itoa n).toArray⟩) ∧ Ext w w' := by
  have c := Lib.hid (Tryd.strconv_Itoa n h0 h1 w ht)
  go_enter Tryd.func27, Tryd.ntmps27
  go_wp2_with fail
  refine c.out.mono ?_; rintro e w' ⟨rfl, k, os, rfl⟩
  go_wp2_with fail
  go_ret
  exact ⟨rfl, ((Ext.refl _).drewN k).grow os⟩
theorem ex1 (w : World) : Calls Tryd.prog 18 #[.int .i64 (-7), .int .i64 2] w fun e w' => e = .returned (.tuple #[.int .i64 (-4), .int .i64 0]) ∧ Ext w w' := by
  have c := num_Floor (-7) 2 (by omega) (by omega) (by omega) (by omega) w
  rw [show quo (-7) 2 = (-4, 0) by decide] at c; exact c
theorem ex2 (w : World) : Calls Tryd.prog 20 #[.int .i64 7, .int .i64 2] w fun e w' => e = .returned (.tuple #[.int .i64 4, .int .i64 0]) ∧ Ext w w' := by
  have c := num_Round 7 2 (by omega) (by omega) (by omega) (by omega) w
  rw [show rnd 7 2 = (4, 0) by decide] at c; exact c
theorem ex3 (w : World) : Calls Tryd.prog 20 #[.int .i64 (-7), .int .i64 2] w fun e w' => e = .returned (.tuple #[.int .i64 (-3), .int .i64 0]) ∧ Ext w w' := by
  have c := num_Round (-7) 2 (by omega) (by omega) (by omega) (by omega) w
  rw [show rnd (-7) 2 = (-3, 0) by decide] at c; exact c
theorem ex4 (w : World) : Calls Tryd.prog 20 #[.int .i64 7, .int .i64 (-2)] w fun e w' => e = .returned (.tuple #[.int .i64 (-3), .int .i64 0]) ∧ Ext w w' := by
  have c := num_Round 7 (-2) (by omega) (by omega) (by omega) (by omega) w
  rw [show rnd 7 (-2) = (-3, 0) by decide] at c; exact c
theorem ex5 (w : World) : Calls Tryd.prog 22 #[.int .i64 4611686018427387904, .int .i64 6, .int .i64 4] w fun e w' => e = .returned (.tuple #[.int .i64 6917529027641081856, .int .i64 0]) ∧ Ext w w' := by
  have c := num_MulDiv 4611686018427387904 6 4 (by omega) (by omega) (by omega) (by omega) (by omega) (by omega) w
  rw [show quo (4611686018427387904 * 6) 4 = (6917529027641081856, 0) by decide] at c; exact c
theorem ex6 (w : World) : Calls Tryd.prog 22 #[.int .i64 4611686018427387904, .int .i64 4, .int .i64 2] w fun e w' => e = .returned (.tuple #[.int .i64 0, .int .i64 3]) ∧ Ext w w' := by
  have c := num_MulDiv 4611686018427387904 4 2 (by omega) (by omega) (by omega) (by omega) (by omega) (by omega) w
  rw [show quo (4611686018427387904 * 4) 2 = (0, 3) by decide] at c; exact c
theorem ex7 (w : World) : Calls Tryd.prog 25 #[.int .i64 24] w fun e w' => e = .returned (.tuple #[.int .i64 4, .int .i64 0]) ∧ w = w' := by
  have c := num_Isqrt 24 (by omega) (by omega) w
  obtain ⟨r, r0, r1, r2, e⟩ := rt_of (n := 24) (by omega)
  have hr : r = 4 := by
    have a := le_of_sq (a := r) (b := 4) (by omega) (by omega)
    have b := le_of_sq (a := 4) (b := r) (by omega) r0
    omega
  rw [e, hr] at c; exact c
theorem ex8 (w : World) : Calls Tryd.prog 28 #[.string ⟨#[45, 49, 50]⟩] w fun e w' => e = .returned (.tuple #[.int .i64 (-12), .int .i64 0]) ∧ w = w' := by
  have c := num_Parse ⟨#[45, 49, 50]⟩ (by decide) w
  rw [show prs (cut (ByteArray.mk #[45, 49, 50]).data.toList).1 (cut (ByteArray.mk #[45, 49, 50]).data.toList).2 = (-12, 0) by decide] at c; exact c
theorem ex9 (w : World) : Calls Tryd.prog 28 #[.string ⟨#[57, 50, 50, 51, 51, 55, 50, 48, 51, 54, 56, 53, 52, 55, 55, 53, 56, 48, 56]⟩] w fun e w' => e = .returned (.tuple #[.int .i64 0, .int .i64 3]) ∧ w = w' := by
  have c := num_Parse ⟨#[57, 50, 50, 51, 51, 55, 50, 48, 51, 54, 56, 53, 52, 55, 55, 53, 56, 48, 56]⟩ (by decide) w
  rw [show prs (cut (ByteArray.mk #[57, 50, 50, 51, 51, 55, 50, 48, 51, 54, 56, 53, 52, 55, 55, 53, 56, 48, 56]).data.toList).1 (cut (ByteArray.mk #[57, 50, 50, 51, 51, 55, 50, 48, 51, 54, 56, 53, 52, 55, 55, 53, 56, 48, 56]).data.toList).2 = (0, 3) by decide +kernel] at c; exact c
theorem ex10 (w : World) : Calls Tryd.prog 31 #[.int .i64 7, .int .i64 0, .int .i64 5] w fun e w' => e = .returned (.int .i64 5) ∧ w = w' := by
  have c := num_Clamp 7 0 5 w
  rw [show max 0 (min 7 5) = (5 : Int) by decide] at c; exact c
theorem ex11 (w : World) (ht : Tab w) : Calls Tryd.prog 27 #[.int .i64 (-9223372036854775808)] w fun e w' => e = .returned (.string ⟨#[45, 57, 50, 50, 51, 51, 55, 50, 48, 51, 54, 56, 53, 52, 55, 55, 53, 56, 48, 56]⟩) ∧ Ext w w' := by
  have c := num_Format (-9223372036854775808) (by omega) (by omega) w ht
  rw [show Lib.itoa (-9223372036854775808) = [45, 57, 50, 50, 51, 51, 55, 50, 48, 51, 54, 56, 53, 52, 55, 55, 53, 56, 48, 56] by decide +kernel] at c; exact c
set_option maxRecDepth 100000 in
set_option maxHeartbeats 1000000 in
theorem law_awake (w : World) (ht : Tab w) : Calls Tryd.prog 17 #[] w fun e w' => e = .returned (.bool true) ∧ Ext w w' := by
  go_enter Tryd.func17, Tryd.ntmps17
  go_wp2_with fail
  refine (ex1 _).mono ?_; rintro e w1 ⟨rfl, h1⟩
  go_wp2_with fail
  refine (ex2 _).mono ?_; rintro e w2 ⟨rfl, h2⟩
  go_wp2_with fail
  refine (ex3 _).mono ?_; rintro e w3 ⟨rfl, h3⟩
  go_wp2_with fail
  refine (ex4 _).mono ?_; rintro e w4 ⟨rfl, h4⟩
  go_wp2_with fail
  refine (ex5 _).mono ?_; rintro e w5 ⟨rfl, h5⟩
  go_wp2_with fail
  refine (ex6 _).mono ?_; rintro e w6 ⟨rfl, h6⟩
  go_wp2_with fail
  refine (ex7 _).mono ?_; rintro e w' ⟨rfl, rfl⟩
  go_wp2_with fail
  refine (ex8 _).mono ?_; rintro e w' ⟨rfl, rfl⟩
  go_wp2_with fail
  refine (ex9 _).mono ?_; rintro e w' ⟨rfl, rfl⟩
  go_wp2_with fail
  refine (ex10 _).mono ?_; rintro e w' ⟨rfl, rfl⟩
  go_wp2_with fail
  have hx : Ext w w6 := ((((h1.trans h2).trans h3).trans h4).trans h5).trans h6
  refine (ex11 _ (ht.ext hx)).mono ?_; rintro e w7 ⟨rfl, h7⟩
  go_wp2_with fail
  go_ret
  exact ⟨rfl, hx.trans h7⟩
end Go.Proofs.YtflalomgifeaaaaDoor
