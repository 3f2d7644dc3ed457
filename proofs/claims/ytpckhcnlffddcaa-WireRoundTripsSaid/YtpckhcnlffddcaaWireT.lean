/-
  Contracts of package wire's TakeInt and TakeText: each answers as the chapter says.
-/
import Derived.Test.YtpckhcnlffddcaaWireS
namespace Go.Proofs.Ytpckhcnlffddcaa
open Go.RowKit
theorem wire_TakeInt_no (s : ByteArray) (a w e : Int) (hs : s.size ≤ 9223372036854775807) (he : e ≠ 0) (ht : takenS s.data.toList a w = ([], e)) (W : World) :
    Calls Try.prog 18 #[.string s, .int .i64 a, .int .i64 w] W fun e W' => e = Res3 (takeI s.data.toList a w) ∧ W = W' := by
  have Z : Hid (takeI s.data.toList a w = (0, 0, e)) := Lib.hid (by unfold takeI; rw [ht, if_pos he])
  have C := Lib.hid (wire_decode_no s a w e hs he ht W)
  have d1 := bne_t he
  clear ht he hs
  go_enter Try.func18, Try.ntmps18
  go_wp2_with fail
  refine (C.out).mono ?_; rintro e w' ⟨rfl, rfl⟩
  go_wp2_with fail
  go_ret3
  exact ⟨res3_of Z.out, rfl⟩
theorem wire_TakeInt_1 (s : ByteArray) (a : Int) (b : List UInt8) (hs : s.size ≤ 9223372036854775807) (ht : takenS s.data.toList a 1 = (b, 0)) (hl : b.length = 1) (a0 : 0 ≤ a) (a1 : a + 1 ≤ s.size) (W : World) :
    Calls Try.prog 18 #[.string s, .int .i64 a, .int .i64 1] W fun e W' => e = Res3 (takeI s.data.toList a 1) ∧ W = W' := by
  have C := wire_decode_yes s a 1 b hs ht W
  have nb := num_lt b
  rw [hl] at nb
  simp only [Nat.reducePow] at nb
  have y0 : 0 ≤ (num b : Int) := by omega
  have s1 : (s.size : Int) ≤ 9223372036854775807 := by omega
  have Z : takeI s.data.toList a 1 = (if 256 ^ (1 : Int).toNat ≤ 2 * num b then (num b : Int) - 256 ^ (1 : Int).toNat else num b, a + 1, 0) := by unfold takeI; rw [ht, if_neg (by simp)]
  simp only [show (1 : Int).toNat = 1 from rfl, Nat.reducePow, Int.reducePow] at Z
  obtain ⟨q, hq⟩ : ∃ q : Int, (takeI s.data.toList a 1).1 = q := ⟨_, rfl⟩
  have Z' : takeI s.data.toList a 1 = (q, a + 1, 0) := by rw [← hq, Z]
  rw [Z] at hq
  obtain ⟨y, hy⟩ : ∃ y : Int, (num b : Int) = y := ⟨_, rfl⟩
  have hq2 : (256 ^ 1 ≤ 2 * y ∧ q = y - 256 ^ 1) ∨ (2 * y < 256 ^ 1 ∧ q = y) := by
    simp only [Int.reducePow]
    split at hq <;> omega
  simp only [Int.reducePow] at hq2
  have y1 : y < 256 ^ 1 := by simp only [Int.reducePow]; omega
  simp only [Int.reducePow] at y1
  rw [hy] at C y0
  have C' := Lib.hid C
  have Q := Lib.hid hq2
  have ZZ := Lib.hid Z'
  clear hq hq2 Z Z' C hy nb ht hl hs
  go_enter Try.func18, Try.ntmps18
  go_wp2_with fail
  refine (C'.out).mono ?_; rintro e w' ⟨rfl, rfl⟩
  go_wp2_with fail
  go_ret3
  refine ⟨?_, rfl⟩
  rw [ZZ.out]
  unfold Res3
  have := Q.out
  exact ret3 (by first | (simp only [wrap64] at *; omega) | omega) rfl rfl
theorem wire_TakeInt_2 (s : ByteArray) (a : Int) (b : List UInt8) (hs : s.size ≤ 9223372036854775807) (ht : takenS s.data.toList a 2 = (b, 0)) (hl : b.length = 2) (a0 : 0 ≤ a) (a1 : a + 2 ≤ s.size) (W : World) :
    Calls Try.prog 18 #[.string s, .int .i64 a, .int .i64 2] W fun e W' => e = Res3 (takeI s.data.toList a 2) ∧ W = W' := by
  have C := wire_decode_yes s a 2 b hs ht W
  have nb := num_lt b
  rw [hl] at nb
  simp only [Nat.reducePow] at nb
  have y0 : 0 ≤ (num b : Int) := by omega
  have s1 : (s.size : Int) ≤ 9223372036854775807 := by omega
  have Z : takeI s.data.toList a 2 = (if 256 ^ (2 : Int).toNat ≤ 2 * num b then (num b : Int) - 256 ^ (2 : Int).toNat else num b, a + 2, 0) := by unfold takeI; rw [ht, if_neg (by simp)]
  simp only [show (2 : Int).toNat = 2 from rfl, Nat.reducePow, Int.reducePow] at Z
  obtain ⟨q, hq⟩ : ∃ q : Int, (takeI s.data.toList a 2).1 = q := ⟨_, rfl⟩
  have Z' : takeI s.data.toList a 2 = (q, a + 2, 0) := by rw [← hq, Z]
  rw [Z] at hq
  obtain ⟨y, hy⟩ : ∃ y : Int, (num b : Int) = y := ⟨_, rfl⟩
  have hq2 : (256 ^ 2 ≤ 2 * y ∧ q = y - 256 ^ 2) ∨ (2 * y < 256 ^ 2 ∧ q = y) := by
    simp only [Int.reducePow]
    split at hq <;> omega
  simp only [Int.reducePow] at hq2
  have y1 : y < 256 ^ 2 := by simp only [Int.reducePow]; omega
  simp only [Int.reducePow] at y1
  rw [hy] at C y0
  have C' := Lib.hid C
  have Q := Lib.hid hq2
  have ZZ := Lib.hid Z'
  clear hq hq2 Z Z' C hy nb ht hl hs
  go_enter Try.func18, Try.ntmps18
  go_wp2_with fail
  refine (C'.out).mono ?_; rintro e w' ⟨rfl, rfl⟩
  go_wp2_with fail
  go_ret3
  refine ⟨?_, rfl⟩
  rw [ZZ.out]
  unfold Res3
  have := Q.out
  exact ret3 (by first | (simp only [wrap64] at *; omega) | omega) rfl rfl
theorem wire_TakeInt_3 (s : ByteArray) (a : Int) (b : List UInt8) (hs : s.size ≤ 9223372036854775807) (ht : takenS s.data.toList a 3 = (b, 0)) (hl : b.length = 3) (a0 : 0 ≤ a) (a1 : a + 3 ≤ s.size) (W : World) :
    Calls Try.prog 18 #[.string s, .int .i64 a, .int .i64 3] W fun e W' => e = Res3 (takeI s.data.toList a 3) ∧ W = W' := by
  have C := wire_decode_yes s a 3 b hs ht W
  have nb := num_lt b
  rw [hl] at nb
  simp only [Nat.reducePow] at nb
  have y0 : 0 ≤ (num b : Int) := by omega
  have s1 : (s.size : Int) ≤ 9223372036854775807 := by omega
  have Z : takeI s.data.toList a 3 = (if 256 ^ (3 : Int).toNat ≤ 2 * num b then (num b : Int) - 256 ^ (3 : Int).toNat else num b, a + 3, 0) := by unfold takeI; rw [ht, if_neg (by simp)]
  simp only [show (3 : Int).toNat = 3 from rfl, Nat.reducePow, Int.reducePow] at Z
  obtain ⟨q, hq⟩ : ∃ q : Int, (takeI s.data.toList a 3).1 = q := ⟨_, rfl⟩
  have Z' : takeI s.data.toList a 3 = (q, a + 3, 0) := by rw [← hq, Z]
  rw [Z] at hq
  obtain ⟨y, hy⟩ : ∃ y : Int, (num b : Int) = y := ⟨_, rfl⟩
  have hq2 : (256 ^ 3 ≤ 2 * y ∧ q = y - 256 ^ 3) ∨ (2 * y < 256 ^ 3 ∧ q = y) := by
    simp only [Int.reducePow]
    split at hq <;> omega
  simp only [Int.reducePow] at hq2
  have y1 : y < 256 ^ 3 := by simp only [Int.reducePow]; omega
  simp only [Int.reducePow] at y1
  rw [hy] at C y0
  have C' := Lib.hid C
  have Q := Lib.hid hq2
  have ZZ := Lib.hid Z'
  clear hq hq2 Z Z' C hy nb ht hl hs
  go_enter Try.func18, Try.ntmps18
  go_wp2_with fail
  refine (C'.out).mono ?_; rintro e w' ⟨rfl, rfl⟩
  go_wp2_with fail
  go_ret3
  refine ⟨?_, rfl⟩
  rw [ZZ.out]
  unfold Res3
  have := Q.out
  exact ret3 (by first | (simp only [wrap64] at *; omega) | omega) rfl rfl
theorem wire_TakeInt_4 (s : ByteArray) (a : Int) (b : List UInt8) (hs : s.size ≤ 9223372036854775807) (ht : takenS s.data.toList a 4 = (b, 0)) (hl : b.length = 4) (a0 : 0 ≤ a) (a1 : a + 4 ≤ s.size) (W : World) :
    Calls Try.prog 18 #[.string s, .int .i64 a, .int .i64 4] W fun e W' => e = Res3 (takeI s.data.toList a 4) ∧ W = W' := by
  have C := wire_decode_yes s a 4 b hs ht W
  have nb := num_lt b
  rw [hl] at nb
  simp only [Nat.reducePow] at nb
  have y0 : 0 ≤ (num b : Int) := by omega
  have s1 : (s.size : Int) ≤ 9223372036854775807 := by omega
  have Z : takeI s.data.toList a 4 = (if 256 ^ (4 : Int).toNat ≤ 2 * num b then (num b : Int) - 256 ^ (4 : Int).toNat else num b, a + 4, 0) := by unfold takeI; rw [ht, if_neg (by simp)]
  simp only [show (4 : Int).toNat = 4 from rfl, Nat.reducePow, Int.reducePow] at Z
  obtain ⟨q, hq⟩ : ∃ q : Int, (takeI s.data.toList a 4).1 = q := ⟨_, rfl⟩
  have Z' : takeI s.data.toList a 4 = (q, a + 4, 0) := by rw [← hq, Z]
  rw [Z] at hq
  obtain ⟨y, hy⟩ : ∃ y : Int, (num b : Int) = y := ⟨_, rfl⟩
  have hq2 : (256 ^ 4 ≤ 2 * y ∧ q = y - 256 ^ 4) ∨ (2 * y < 256 ^ 4 ∧ q = y) := by
    simp only [Int.reducePow]
    split at hq <;> omega
  simp only [Int.reducePow] at hq2
  have y1 : y < 256 ^ 4 := by simp only [Int.reducePow]; omega
  simp only [Int.reducePow] at y1
  rw [hy] at C y0
  have C' := Lib.hid C
  have Q := Lib.hid hq2
  have ZZ := Lib.hid Z'
  clear hq hq2 Z Z' C hy nb ht hl hs
  go_enter Try.func18, Try.ntmps18
  go_wp2_with fail
  refine (C'.out).mono ?_; rintro e w' ⟨rfl, rfl⟩
  go_wp2_with fail
  go_ret3
  refine ⟨?_, rfl⟩
  rw [ZZ.out]
  unfold Res3
  have := Q.out
  exact ret3 (by first | (simp only [wrap64] at *; omega) | omega) rfl rfl
theorem wire_TakeInt_5 (s : ByteArray) (a : Int) (b : List UInt8) (hs : s.size ≤ 9223372036854775807) (ht : takenS s.data.toList a 5 = (b, 0)) (hl : b.length = 5) (a0 : 0 ≤ a) (a1 : a + 5 ≤ s.size) (W : World) :
    Calls Try.prog 18 #[.string s, .int .i64 a, .int .i64 5] W fun e W' => e = Res3 (takeI s.data.toList a 5) ∧ W = W' := by
  have C := wire_decode_yes s a 5 b hs ht W
  have nb := num_lt b
  rw [hl] at nb
  simp only [Nat.reducePow] at nb
  have y0 : 0 ≤ (num b : Int) := by omega
  have s1 : (s.size : Int) ≤ 9223372036854775807 := by omega
  have Z : takeI s.data.toList a 5 = (if 256 ^ (5 : Int).toNat ≤ 2 * num b then (num b : Int) - 256 ^ (5 : Int).toNat else num b, a + 5, 0) := by unfold takeI; rw [ht, if_neg (by simp)]
  simp only [show (5 : Int).toNat = 5 from rfl, Nat.reducePow, Int.reducePow] at Z
  obtain ⟨q, hq⟩ : ∃ q : Int, (takeI s.data.toList a 5).1 = q := ⟨_, rfl⟩
  have Z' : takeI s.data.toList a 5 = (q, a + 5, 0) := by rw [← hq, Z]
  rw [Z] at hq
  obtain ⟨y, hy⟩ : ∃ y : Int, (num b : Int) = y := ⟨_, rfl⟩
  have hq2 : (256 ^ 5 ≤ 2 * y ∧ q = y - 256 ^ 5) ∨ (2 * y < 256 ^ 5 ∧ q = y) := by
    simp only [Int.reducePow]
    split at hq <;> omega
  simp only [Int.reducePow] at hq2
  have y1 : y < 256 ^ 5 := by simp only [Int.reducePow]; omega
  simp only [Int.reducePow] at y1
  rw [hy] at C y0
  have C' := Lib.hid C
  have Q := Lib.hid hq2
  have ZZ := Lib.hid Z'
  clear hq hq2 Z Z' C hy nb ht hl hs
  go_enter Try.func18, Try.ntmps18
  go_wp2_with fail
  refine (C'.out).mono ?_; rintro e w' ⟨rfl, rfl⟩
  go_wp2_with fail
  go_ret3
  refine ⟨?_, rfl⟩
  rw [ZZ.out]
  unfold Res3
  have := Q.out
  exact ret3 (by first | (simp only [wrap64] at *; omega) | omega) rfl rfl
theorem wire_TakeInt_6 (s : ByteArray) (a : Int) (b : List UInt8) (hs : s.size ≤ 9223372036854775807) (ht : takenS s.data.toList a 6 = (b, 0)) (hl : b.length = 6) (a0 : 0 ≤ a) (a1 : a + 6 ≤ s.size) (W : World) :
    Calls Try.prog 18 #[.string s, .int .i64 a, .int .i64 6] W fun e W' => e = Res3 (takeI s.data.toList a 6) ∧ W = W' := by
  have C := wire_decode_yes s a 6 b hs ht W
  have nb := num_lt b
  rw [hl] at nb
  simp only [Nat.reducePow] at nb
  have y0 : 0 ≤ (num b : Int) := by omega
  have s1 : (s.size : Int) ≤ 9223372036854775807 := by omega
  have Z : takeI s.data.toList a 6 = (if 256 ^ (6 : Int).toNat ≤ 2 * num b then (num b : Int) - 256 ^ (6 : Int).toNat else num b, a + 6, 0) := by unfold takeI; rw [ht, if_neg (by simp)]
  simp only [show (6 : Int).toNat = 6 from rfl, Nat.reducePow, Int.reducePow] at Z
  obtain ⟨q, hq⟩ : ∃ q : Int, (takeI s.data.toList a 6).1 = q := ⟨_, rfl⟩
  have Z' : takeI s.data.toList a 6 = (q, a + 6, 0) := by rw [← hq, Z]
  rw [Z] at hq
  obtain ⟨y, hy⟩ : ∃ y : Int, (num b : Int) = y := ⟨_, rfl⟩
  have hq2 : (256 ^ 6 ≤ 2 * y ∧ q = y - 256 ^ 6) ∨ (2 * y < 256 ^ 6 ∧ q = y) := by
    simp only [Int.reducePow]
    split at hq <;> omega
  simp only [Int.reducePow] at hq2
  have y1 : y < 256 ^ 6 := by simp only [Int.reducePow]; omega
  simp only [Int.reducePow] at y1
  rw [hy] at C y0
  have C' := Lib.hid C
  have Q := Lib.hid hq2
  have ZZ := Lib.hid Z'
  clear hq hq2 Z Z' C hy nb ht hl hs
  go_enter Try.func18, Try.ntmps18
  go_wp2_with fail
  refine (C'.out).mono ?_; rintro e w' ⟨rfl, rfl⟩
  go_wp2_with fail
  go_ret3
  refine ⟨?_, rfl⟩
  rw [ZZ.out]
  unfold Res3
  have := Q.out
  exact ret3 (by first | (simp only [wrap64] at *; omega) | omega) rfl rfl
theorem wire_TakeInt_7 (s : ByteArray) (a : Int) (b : List UInt8) (hs : s.size ≤ 9223372036854775807) (ht : takenS s.data.toList a 7 = (b, 0)) (hl : b.length = 7) (a0 : 0 ≤ a) (a1 : a + 7 ≤ s.size) (W : World) :
    Calls Try.prog 18 #[.string s, .int .i64 a, .int .i64 7] W fun e W' => e = Res3 (takeI s.data.toList a 7) ∧ W = W' := by
  have C := wire_decode_yes s a 7 b hs ht W
  have nb := num_lt b
  rw [hl] at nb
  simp only [Nat.reducePow] at nb
  have y0 : 0 ≤ (num b : Int) := by omega
  have s1 : (s.size : Int) ≤ 9223372036854775807 := by omega
  have Z : takeI s.data.toList a 7 = (if 256 ^ (7 : Int).toNat ≤ 2 * num b then (num b : Int) - 256 ^ (7 : Int).toNat else num b, a + 7, 0) := by unfold takeI; rw [ht, if_neg (by simp)]
  simp only [show (7 : Int).toNat = 7 from rfl, Nat.reducePow, Int.reducePow] at Z
  obtain ⟨q, hq⟩ : ∃ q : Int, (takeI s.data.toList a 7).1 = q := ⟨_, rfl⟩
  have Z' : takeI s.data.toList a 7 = (q, a + 7, 0) := by rw [← hq, Z]
  rw [Z] at hq
  obtain ⟨y, hy⟩ : ∃ y : Int, (num b : Int) = y := ⟨_, rfl⟩
  have hq2 : (256 ^ 7 ≤ 2 * y ∧ q = y - 256 ^ 7) ∨ (2 * y < 256 ^ 7 ∧ q = y) := by
    simp only [Int.reducePow]
    split at hq <;> omega
  simp only [Int.reducePow] at hq2
  have y1 : y < 256 ^ 7 := by simp only [Int.reducePow]; omega
  simp only [Int.reducePow] at y1
  rw [hy] at C y0
  have C' := Lib.hid C
  have Q := Lib.hid hq2
  have ZZ := Lib.hid Z'
  clear hq hq2 Z Z' C hy nb ht hl hs
  go_enter Try.func18, Try.ntmps18
  go_wp2_with fail
  refine (C'.out).mono ?_; rintro e w' ⟨rfl, rfl⟩
  go_wp2_with fail
  go_ret3
  refine ⟨?_, rfl⟩
  rw [ZZ.out]
  unfold Res3
  have := Q.out
  exact ret3 (by first | (simp only [wrap64] at *; omega) | omega) rfl rfl
theorem wire_TakeInt_8 (s : ByteArray) (a : Int) (b : List UInt8) (hs : s.size ≤ 9223372036854775807) (ht : takenS s.data.toList a 8 = (b, 0)) (hl : b.length = 8) (a0 : 0 ≤ a) (a1 : a + 8 ≤ s.size) (W : World) :
    Calls Try.prog 18 #[.string s, .int .i64 a, .int .i64 8] W fun e W' => e = Res3 (takeI s.data.toList a 8) ∧ W = W' := by
  have C := wire_decode_yes s a 8 b hs ht W
  have nb := num_lt b
  rw [hl] at nb
  simp only [Nat.reducePow] at nb
  have y0 : 0 ≤ (num b : Int) := by omega
  have s1 : (s.size : Int) ≤ 9223372036854775807 := by omega
  have Z : takeI s.data.toList a 8 = (if 256 ^ (8 : Int).toNat ≤ 2 * num b then (num b : Int) - 256 ^ (8 : Int).toNat else num b, a + 8, 0) := by unfold takeI; rw [ht, if_neg (by simp)]
  simp only [show (8 : Int).toNat = 8 from rfl, Nat.reducePow, Int.reducePow] at Z
  obtain ⟨q, hq⟩ : ∃ q : Int, (takeI s.data.toList a 8).1 = q := ⟨_, rfl⟩
  have Z' : takeI s.data.toList a 8 = (q, a + 8, 0) := by rw [← hq, Z]
  rw [Z] at hq
  obtain ⟨y, hy⟩ : ∃ y : Int, (num b : Int) = y := ⟨_, rfl⟩
  have hq2 : (256 ^ 8 ≤ 2 * y ∧ q = y - 256 ^ 8) ∨ (2 * y < 256 ^ 8 ∧ q = y) := by
    simp only [Int.reducePow]
    split at hq <;> omega
  simp only [Int.reducePow] at hq2
  have y1 : y < 256 ^ 8 := by simp only [Int.reducePow]; omega
  simp only [Int.reducePow] at y1
  rw [hy] at C y0
  have C' := Lib.hid C
  have Q := Lib.hid hq2
  have ZZ := Lib.hid Z'
  clear hq hq2 Z Z' C hy nb ht hl hs
  go_enter Try.func18, Try.ntmps18
  go_wp2_with fail
  refine (C'.out).mono ?_; rintro e w' ⟨rfl, rfl⟩
  go_wp2_with fail
  go_ret3
  refine ⟨?_, rfl⟩
  rw [ZZ.out]
  unfold Res3
  have := Q.out
  exact ret3 (by first | (simp only [wrap64] at *; omega) | omega) rfl rfl
/-- additive/wire.TakeInt -/
theorem wire_TakeInt (s : ByteArray) (a w : Int) (hs : s.size ≤ 9223372036854775807) (W : World) :
    Calls Try.prog 18 #[.string s, .int .i64 a, .int .i64 w] W fun e W' => e = Res3 (takeI s.data.toList a w) ∧ W = W' := by
  have sl := wlen s
  rcases taken_cases s.data.toList a w with ⟨e, he, ht⟩ | ⟨b, ht, hl, w1, w8, a0, a1⟩
  · exact wire_TakeInt_no s a w e hs he ht W
  · rw [sl] at a1
    rcases (show w = 1 ∨ w = 2 ∨ w = 3 ∨ w = 4 ∨ w = 5 ∨ w = 6 ∨ w = 7 ∨ w = 8 by omega) with rfl | rfl | rfl | rfl | rfl | rfl | rfl | rfl
    · exact wire_TakeInt_1 s a b hs ht (by omega) a0 a1 W
    · exact wire_TakeInt_2 s a b hs ht (by omega) a0 a1 W
    · exact wire_TakeInt_3 s a b hs ht (by omega) a0 a1 W
    · exact wire_TakeInt_4 s a b hs ht (by omega) a0 a1 W
    · exact wire_TakeInt_5 s a b hs ht (by omega) a0 a1 W
    · exact wire_TakeInt_6 s a b hs ht (by omega) a0 a1 W
    · exact wire_TakeInt_7 s a b hs ht (by omega) a0 a1 W
    · exact wire_TakeInt_8 s a b hs ht (by omega) a0 a1 W
end Go.Proofs.Ytpckhcnlffddcaa

