/-
  Contracts of package wire's Text, Pad, TakeUint, TakeInt and TakeText: each answers as the chapter says.
-/
import Derived.Test.YtpckhcnlffddcaaWireR
import Derived.Test.YtpckhcnlffddcaaShelf
namespace Go.Proofs.Ytpckhcnlffddcaa
open Go.RowKit
theorem rep_zero (k : Nat) : Lib.repeatL [0] k = List.replicate k 0 := by
  induction k with
  | zero => rfl
  | succ k ih => rw [Lib.repeatL, ih, List.replicate_succ]; rfl
theorem lib_repeat (k : Nat) (h : k ≤ 65536) (w : World) :
    Calls Try.prog 33 #[.string ⟨#[0]⟩, .int .i64 (k : Int)] w fun e w' => e = .returned (.string ⟨(List.replicate k (0 : UInt8)).toArray⟩) ∧ Ext w w' := by
  have c := Try.strings_Repeat ⟨#[0]⟩ k w (by omega) (by show 1 * k ≤ _; omega)
  rw [show (ByteArray.mk #[0]).data.toList = [0] from rfl, rep_zero] at c
  exact c
/-- additive/wire.Text -/
theorem wire_Text (s : ByteArray) (hs : s.size ≤ 9223372036854775807) (W : World) :
    Calls Try.prog 20 #[.string s] W fun e W' => e = ResS (textS s.data.toList) ∧ Ext W W' := by
  have sl := wlen s
  by_cases h : 65535 < s.size
  · have Z : Hid (textS s.data.toList = ([], 2)) := Lib.hid (by unfold textS; rw [sl, if_pos h])
    have hi : (65535 : Int) < s.size := by omega
    clear sl
    go_enter Try.func20, Try.ntmps20
    go_wp2_with fail
    go_ret2
    exact ⟨resS_of Z.out, Ext.refl _⟩
  · have B := wire_encode (s.size : Int) 2 (by omega) W
    rw [show ((s.size : Int) % 18446744073709551616).toNat = s.size by omega] at B
    have Z : Hid (textS s.data.toList = (enc s.size 2 ++ s.data.toList, 0)) := Lib.hid (by
      unfold textS; rw [sl, if_neg h])
    have hi : (s.size : Int) ≤ 65535 := by omega
    have hi2 : s.size ≤ 65535 := by omega
    have el : (⟨(enc s.size 2).toArray⟩ : ByteArray).size = 2 := by
      show (enc s.size 2).toArray.size = 2
      simp [enc_len]
    have ap : (⟨(enc s.size 2).toArray⟩ : ByteArray) ++ s = ⟨(enc s.size 2 ++ s.data.toList).toArray⟩ := str_app _ s.data.toList
    generalize (enc s.size 2) = L at *
    generalize (⟨L.toArray⟩ : ByteArray) = bs at *
    have AP := Lib.hid ap; have eli : bs.size ≤ 2 := by omega
    have B' := Lib.hid B
    clear sl ap el h B
    go_enter Try.func20, Try.ntmps20
    go_wp2_with fail
    refine B'.out.mono ?_; rintro e w1 ⟨rfl, h⟩
    go_wp2_with fail
    all_goals first
      | (exfalso; omega)
      | (go_ret2; exact ⟨resS_at Z.out AP.out, h⟩)
/-- additive/wire.Pad -/
theorem wire_Pad (s : ByteArray) (n : Int) (hs : s.size ≤ 9223372036854775807) (W : World) :
    Calls Try.prog 24 #[.string s, .int .i64 n] W fun e W' => e = ResS (padS s.data.toList n) ∧ Ext W W' := by
  have sl := wlen s
  by_cases h1 : n < 0 ∨ 65536 < n
  · have Z : Hid (padS s.data.toList n = ([], 1)) := Lib.hid (by unfold padS; rw [if_pos h1])
    clear sl
    rcases h1 with h1 | h1
    · have d1 := dlt_t h1
      go_enter Try.func24, Try.ntmps24
      go_wp2_with fail
      go_ret2
      exact ⟨resS_of Z.out, Ext.refl _⟩
    · have d1 := dlt_t h1
      have d2 : decide (n < 0) = false := dlt_f (by omega)
      go_enter Try.func24, Try.ntmps24
      go_wp2_with fail
      go_ret2
      exact ⟨resS_of Z.out, Ext.refl _⟩
  have d1 : decide (n < 0) = false := dlt_f (by omega)
  have d2 : decide (65536 < n) = false := dlt_f (by omega)
  by_cases h2 : n < s.size
  · have Z : Hid (padS s.data.toList n = ([], 2)) := Lib.hid (by unfold padS; rw [if_neg h1, sl, if_pos h2])
    clear sl h1
    go_enter Try.func24, Try.ntmps24
    go_wp2_with fail
    go_ret2
    exact ⟨resS_of Z.out, Ext.refl _⟩
  · obtain ⟨k, hk⟩ : ∃ k : Nat, n = (s.size : Int) + k := ⟨(n - s.size).toNat, by omega⟩
    have Z : Hid (padS s.data.toList n = (s.data.toList ++ List.replicate k 0, 0)) := Lib.hid (by
      unfold padS; rw [if_neg h1, sl, if_neg h2, show n.toNat - s.size = k by omega])
    have c := lib_repeat k (by omega) W
    have ap : s ++ (⟨(List.replicate k (0 : UInt8)).toArray⟩ : ByteArray) = ⟨(s.data.toList ++ List.replicate k 0).toArray⟩ := str_app s.data.toList _
    have bl : (⟨(List.replicate k (0 : UInt8)).toArray⟩ : ByteArray).size = k := by
      show (List.replicate k (0 : UInt8)).toArray.size = k
      simp
    generalize (⟨(List.replicate k (0 : UInt8)).toArray⟩ : ByteArray) = bs at *
    have AP := Lib.hid ap
    have C := Lib.hid c
    have b1 : bs.size ≤ 65536 := by omega
    have s1 : s.size ≤ 65536 := by omega
    have hd : n - (s.size : Int) = k := by omega
    have n0 : 0 ≤ n := by omega
    have n1 : n ≤ 65536 := by omega
    have ns : (s.size : Int) ≤ n := by omega
    clear sl h1 h2 ap bl hk c
    go_enter Try.func24, Try.ntmps24
    go_wp2_with fail
    refine C.out.mono ?_; rintro e w1 ⟨rfl, h⟩
    go_wp2_with fail
    all_goals first
      | (exfalso; omega)
      | (go_ret2; exact ⟨resS_at Z.out AP.out, h⟩)
/-- additive/wire.decode, as taken gives it -/
theorem wire_decode_no (s : ByteArray) (a w e : Int) (hs : s.size ≤ 9223372036854775807) (he : e ≠ 0) (ht : takenS s.data.toList a w = ([], e)) (W : World) :
    Calls Try.prog 30 #[.string s, .int .i64 a, .int .i64 w] W fun x W' => x = .returned (.tuple #[.int .u64 0, .int .i64 e]) ∧ W = W' := by
  unfold takenS at ht
  rw [wlen] at ht
  by_cases h : a < 0 ∨ (s.size : Int) < a ∨ ¬ (1 ≤ w ∧ w ≤ 8)
  · rw [if_pos h] at ht
    obtain rfl : (1 : Int) = e := by injection ht
    exact wire_decode_arg s a w hs h W
  rw [if_neg h] at ht
  by_cases h2 : (s.size : Int) - a < w
  · rw [if_pos h2] at ht
    obtain rfl : (6 : Int) = e := by injection ht
    exact wire_decode_cut s a w hs (by omega) (by omega) (by omega) (by omega) h2 W
  · rw [if_neg h2] at ht
    injection ht with _ h3
    exact absurd h3.symm he
theorem wire_decode_yes (s : ByteArray) (a w : Int) (b : List UInt8) (hs : s.size ≤ 9223372036854775807) (ht : takenS s.data.toList a w = (b, 0)) (W : World) :
    Calls Try.prog 30 #[.string s, .int .i64 a, .int .i64 w] W fun x W' => x = .returned (.tuple #[.int .u64 (num b : Int), .int .i64 0]) ∧ W = W' := by
  unfold takenS at ht
  rw [wlen] at ht
  by_cases h : a < 0 ∨ (s.size : Int) < a ∨ ¬ (1 ≤ w ∧ w ≤ 8)
  · rw [if_pos h] at ht; injection ht with _ h3; cases h3
  rw [if_neg h] at ht
  by_cases h2 : (s.size : Int) - a < w
  · rw [if_pos h2] at ht; injection ht with _ h3; cases h3
  rw [if_neg h2] at ht
  obtain rfl : (s.data.toList.drop a.toNat).take w.toNat = b := by injection ht
  have c := wire_decode_ok s a.toNat w.toNat hs (by omega) (by omega) (by omega) W
  rw [show ((a.toNat : Nat) : Int) = a by omega, show ((w.toNat : Nat) : Int) = w by omega] at c
  exact c
set_option maxHeartbeats 1000000 in
/-- additive/wire.TakeUint -/
theorem wire_TakeUint (s : ByteArray) (a w : Int) (hs : s.size ≤ 9223372036854775807) (W : World) :
    Calls Try.prog 16 #[.string s, .int .i64 a, .int .i64 w] W fun e W' => e = Res3 (takeU s.data.toList a w) ∧ W = W' := by
  have sl := wlen s
  rcases taken_cases s.data.toList a w with ⟨e, he, ht⟩ | ⟨b, ht, hl, w1, w8, a0, a1⟩
  · have Z : Hid (takeU s.data.toList a w = (0, 0, e)) := Lib.hid (by unfold takeU; rw [ht, if_pos he])
    have C := Lib.hid (wire_decode_no s a w e hs he ht W)
    have d1 := bne_t he
    clear sl ht he hs
    go_enter Try.func16, Try.ntmps16
    go_wp2_with fail
    refine (C.out).mono ?_; rintro e w' ⟨rfl, rfl⟩
    go_wp2_with fail
    go_ret3
    exact ⟨res3_of Z.out, rfl⟩
  · have C := Lib.hid (wire_decode_yes s a w b hs ht W)
    have nb := num_small (b := b) (by omega)
    have y0 : 0 ≤ (num b : Int) := by omega
    have y1 : (num b : Int) ≤ 18446744073709551615 := by omega
    have aw : a + w ≤ s.size := by omega
    have s1 : (s.size : Int) ≤ 9223372036854775807 := by omega
    by_cases h : 9223372036854775808 ≤ num b
    · have Z : Hid (takeU s.data.toList a w = (0, 0, 3)) := Lib.hid (by unfold takeU; rw [ht, if_neg (by simp), if_pos h])
      have d1 : decide ((9223372036854775807 : Int) < (num b : Int)) = true := dlt_t (by omega)
      generalize (num b : Int) = y at *
      clear sl ht hl nb h hs
      go_enter Try.func16, Try.ntmps16
      go_wp2_with fail
      refine (C.out).mono ?_; rintro e w' ⟨rfl, rfl⟩
      go_wp2_with fail
      go_ret3
      exact ⟨res3_of Z.out, rfl⟩
    · have Z : Hid (takeU s.data.toList a w = ((num b : Int), a + w, 0)) := Lib.hid (by unfold takeU; rw [ht, if_neg (by simp), if_neg h])
      have d1 : decide ((9223372036854775807 : Int) < (num b : Int)) = false := dlt_f (by omega)
      have y2 : (num b : Int) ≤ 9223372036854775807 := by omega
      generalize (num b : Int) = y at *
      clear sl ht hl nb h hs
      go_enter Try.func16, Try.ntmps16
      go_wp2_with fail
      refine (C.out).mono ?_; rintro e w' ⟨rfl, rfl⟩
      go_wp2_with fail
      go_ret3
      exact ⟨res3_of Z.out, rfl⟩
end Go.Proofs.Ytpckhcnlffddcaa

