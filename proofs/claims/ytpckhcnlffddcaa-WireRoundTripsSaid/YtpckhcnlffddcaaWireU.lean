/-
  Contract of package wire's TakeText: it answers as the chapter says.
-/
import Derived.Test.YtpckhcnlffddcaaWireT
namespace Go.Proofs.Ytpckhcnlffddcaa
open Go.RowKit
set_option maxHeartbeats 1000000 in
/-- additive/wire.TakeText -/
theorem wire_TakeText (s : ByteArray) (a m : Int) (hs : s.size ≤ 9223372036854775807) (W : World) :
    Calls Try.prog 22 #[.string s, .int .i64 a, .int .i64 m] W fun e W' => e = ResSI (takeT s.data.toList a m) ∧ W = W' := by
  have sl := wlen s
  have s1 : (s.size : Int) ≤ 9223372036854775807 := by omega
  have U := wire_TakeUint s a 2 hs W
  clear hs
  by_cases h3 : m < 0
  · have Z : Hid (takeT s.data.toList a m = ([], 0, 1)) := Lib.hid (by unfold takeT; rw [if_pos (.inr (.inr h3))])
    have d3 := dlt_t h3
    clear sl U
    go_enter Try.func22, Try.ntmps22
    go_wp2_with fail
    go_ret3
    exact ⟨resSI_of Z.out, rfl⟩
  have d3 : decide (m < 0) = false := dlt_f (by omega)
  by_cases h1 : a < 0 ∨ (s.size : Int) < a
  · have Z : Hid (takeT s.data.toList a m = ([], 0, 1)) := Lib.hid (by unfold takeT; rw [sl, if_pos (by omega)])
    have t : takeU s.data.toList a 2 = (0, 0, 1) := by
      have : takenS s.data.toList a 2 = ([], 1) := by unfold takenS; rw [sl, if_pos (by omega)]
      unfold takeU; rw [this, if_pos (by simp)]
    rw [t] at U
    unfold Res3 at U
    have U' := Lib.hid U
    clear sl U t h1 h3
    go_enter Try.func22, Try.ntmps22
    go_wp2_with fail
    refine (U'.out).mono ?_; rintro e w' ⟨rfl, rfl⟩
    go_wp2_with fail
    go_ret3
    exact ⟨resSI_of Z.out, rfl⟩
  have hn : ¬ (a < 0 ∨ (s.data.toList.length : Int) < a ∨ m < 0) := by rw [sl]; omega
  have a0 : 0 ≤ a := by omega
  have a1 : a ≤ s.size := by omega
  have m0 : 0 ≤ m := by omega
  by_cases h4 : (s.size : Int) - a < 2
  · have Z : Hid (takeT s.data.toList a m = ([], 0, 6)) := Lib.hid (by unfold takeT; rw [if_neg hn, sl, if_pos h4])
    have t : takeU s.data.toList a 2 = (0, 0, 6) := by
      have : takenS s.data.toList a 2 = ([], 6) := by unfold takenS; rw [sl, if_neg (by omega), if_pos h4]
      unfold takeU; rw [this, if_pos (by simp)]
    rw [t] at U
    unfold Res3 at U
    have U' := Lib.hid U
    clear sl U t h1 h3 hn
    go_enter Try.func22, Try.ntmps22
    go_wp2_with fail
    refine (U'.out).mono ?_; rintro e w' ⟨rfl, rfl⟩
    go_wp2_with fail
    go_ret3
    exact ⟨resSI_of Z.out, rfl⟩
  have h5 : 2 ≤ (s.size : Int) - a := by omega
  obtain ⟨i, rfl⟩ : ∃ i : Nat, a = i := ⟨a.toNat, by omega⟩
  obtain ⟨b, hb⟩ : ∃ b, (s.data.toList.drop i).take 2 = b := ⟨_, rfl⟩
  have bl : b.length = 2 := by rw [← hb, List.length_take, List.length_drop, sl]; omega
  have nb : num b < 65536 := by have := num_lt b; rw [bl] at this; exact this
  obtain ⟨k, hk⟩ : ∃ k : Nat, num b = k := ⟨_, rfl⟩
  have t : takeU s.data.toList i 2 = ((k : Int), (i : Int) + 2, 0) := by
    have : takenS s.data.toList i 2 = (b, 0) := by
      unfold takenS; rw [sl, if_neg (by omega), if_neg h4, show (i : Int).toNat = i by omega, show (2 : Int).toNat = 2 from rfl, hb]
    unfold takeU; rw [this, if_neg (by simp), if_neg (by show ¬ 9223372036854775808 ≤ num b; omega), hk]
  rw [t] at U
  unfold Res3 at U
  have tk : takeT s.data.toList i m = if m < (k : Int) then ([], 0, 2) else if (s.size : Int) - i - 2 < (k : Int) then ([], 0, 6) else ((s.data.toList.drop (i + 2)).take k, (i : Int) + 2 + k, 0) := by
    unfold takeT
    rw [if_neg hn, sl, if_neg h4, show (i : Int).toNat = i by omega, hb, hk]
  have U' := Lib.hid U
  have k0 : (0 : Int) ≤ k := by omega
  have k1 : (k : Int) ≤ 65535 := by omega
  clear U t h1
  by_cases h6 : m < k
  · have Z : Hid (takeT s.data.toList i m = ([], 0, 2)) := Lib.hid (by rw [tk, if_pos h6])
    clear tk hk nb bl hb hn sl h4
    go_enter Try.func22, Try.ntmps22
    go_wp2_with fail
    refine (U'.out).mono ?_; rintro e w' ⟨rfl, rfl⟩
    go_wp2_with fail
    go_ret3
    exact ⟨resSI_of Z.out, rfl⟩
  by_cases h7 : (s.size : Int) - i - 2 < k
  · have Z : Hid (takeT s.data.toList i m = ([], 0, 6)) := Lib.hid (by rw [tk, if_neg h6, if_pos h7])
    have h6' : (k : Int) ≤ m := by omega
    have h8 : decide ((s.size : Int) - ((i : Int) + 2) < k) = true := dlt_t (by omega)
    clear tk hk nb bl hb hn sl h4 h6
    go_enter Try.func22, Try.ntmps22
    go_wp2_with fail
    refine (U'.out).mono ?_; rintro e w' ⟨rfl, rfl⟩
    go_wp2_with fail
    go_ret3
    exact ⟨resSI_of Z.out, rfl⟩
  · have Z : Hid (takeT s.data.toList i m = ((s.data.toList.drop (i + 2)).take k, (i : Int) + 2 + k, 0)) := Lib.hid (by rw [tk, if_neg h6, if_neg h7])
    have sr2 := slice_lh W s ((i : Int) + 2) ((i : Int) + 2 + k) (by omega) (by omega) (by omega)
    rw [show ((i : Int) + 2).toNat = i + 2 by omega, show ((i : Int) + 2 + k).toNat = i + 2 + k by omega, extract_at] at sr2
    have h6' : (k : Int) ≤ m := by omega
    have h7' : (k : Int) ≤ (s.size : Int) - i - 2 := by omega
    have h8 : decide ((s.size : Int) - ((i : Int) + 2) < k) = false := dlt_f (by omega)
    clear tk hk nb bl hb hn sl h4 h6 h7
    go_enter Try.func22, Try.ntmps22
    go_wp2_with fail
    refine (U'.out).mono ?_; rintro e w' ⟨rfl, rfl⟩
    go_wp2_with fail
    go_ret3
    exact ⟨resSI_of Z.out, rfl⟩
end Go.Proofs.Ytpckhcnlffddcaa

