/-
  Contracts of the document's own answers to layer 2 (wire), third part: TakeUint, TakeInt and TakeText.
-/
import Derived.Test.YtpckhcnlffddcaaRefX
namespace Go.Proofs.Ytpckhcnlffddcaa
open Go.RowKit
/-- What TakeUint answers. -/
def takeU (l : List UInt8) (a w : Int) : Int × Int × Int :=
  if (takenS l a w).2 ≠ 0 then (0, 0, (takenS l a w).2) else if 9223372036854775808 ≤ num (takenS l a w).1 then (0, 0, 3) else (num (takenS l a w).1, a + w, 0)
/-- What TakeInt answers. -/
def takeI (l : List UInt8) (a w : Int) : Int × Int × Int :=
  if (takenS l a w).2 ≠ 0 then (0, 0, (takenS l a w).2) else (if 256 ^ w.toNat ≤ 2 * num (takenS l a w).1 then (num (takenS l a w).1 : Int) - 256 ^ w.toNat else num (takenS l a w).1, a + w, 0)
def Res3 (p : Int × Int × Int) : Ending := .returned (.tuple #[.int .i64 p.1, .int .i64 p.2.1, .int .i64 p.2.2])
theorem res3_of {p : Int × Int × Int} {x y z : Int} (h : p = (x, y, z)) : Ending.returned (.tuple #[.int .i64 x, .int .i64 y, .int .i64 z]) = Res3 p := by rw [h]; rfl
/-- What taken gives: an error, or as many bytes as were asked for. -/
theorem taken_cases (l : List UInt8) (a w : Int) : (∃ e, e ≠ 0 ∧ takenS l a w = ([], e)) ∨ (∃ b, takenS l a w = (b, 0) ∧ (b.length : Int) = w ∧ 1 ≤ w ∧ w ≤ 8 ∧ 0 ≤ a ∧ a + w ≤ l.length) := by
  unfold takenS
  split
  · exact .inl ⟨1, by decide, rfl⟩
  · split
    · exact .inl ⟨6, by decide, rfl⟩
    · refine .inr ⟨_, rfl, ?_, by omega, by omega, by omega, by omega⟩
      rw [List.length_take, List.length_drop]
      omega
theorem num_small {b : List UInt8} (h : b.length ≤ 8) : num b < 18446744073709551616 := by
  have h1 := num_lt b
  have h2 : 256 ^ b.length ≤ 256 ^ 8 := Nat.pow_le_pow_right (by omega) h
  omega
set_option maxHeartbeats 1000000 in
/-- additiveref02.TakeUint -/
theorem ref_TakeUint (s : ByteArray) (a w : Int) (hs : s.size ≤ 9223372036854775807) (W : World) :
    Calls Try.prog 17 #[.string s, .int .i64 a, .int .i64 w] W fun e W' => e = Res3 (takeU s.data.toList a w) ∧ W = W' := by
  have C := ref_taken s a w hs W
  have sl := wlen s
  rcases taken_cases s.data.toList a w with ⟨e, he, ht⟩ | ⟨b, ht, hl, w1, w8, a0, a1⟩
  · have Z : Hid (takeU s.data.toList a w = (0, 0, e)) := Lib.hid (by unfold takeU; rw [ht, if_pos he])
    rw [ht] at C
    unfold ResS at C
    have C' := Lib.hid C
    have d1 := bne_t he
    clear C sl ht he
    go_enter Try.func17, Try.ntmps17
    go_wp2_with fail
    refine C'.out.mono ?_; rintro e w' ⟨rfl, rfl⟩
    go_wp2_with fail
    go_ret3
    exact ⟨res3_of Z.out, rfl⟩
  · have bs : (⟨b.toArray⟩ : ByteArray).size ≤ 8 := by show b.toArray.size ≤ 8; simp; omega
    have N := ref_number ⟨b.toArray⟩ bs W
    rw [show (ByteArray.mk b.toArray).data.toList = b by simp] at N
    have nb := num_small (b := b) (by omega)
    have y0 : 0 ≤ (num b : Int) := by omega
    have y1 : (num b : Int) ≤ 18446744073709551615 := by omega
    have aw : a + w ≤ s.size := by omega
    have s1 : (s.size : Int) ≤ 9223372036854775807 := by omega
    rw [ht] at C
    unfold ResS at C
    by_cases h : 9223372036854775808 ≤ num b
    · have Z : Hid (takeU s.data.toList a w = (0, 0, 3)) := Lib.hid (by unfold takeU; rw [ht, if_neg (by simp), if_pos h])
      have d1 : decide ((9223372036854775808 : Int) ≤ (num b : Int)) = true := dle_t (by omega)
      have hI : (9223372036854775808 : Int) ≤ (num b : Int) := by omega
      generalize (num b : Int) = y at *
      have C' := Lib.hid C; have N' := Lib.hid N
      clear C N sl ht hl bs nb h
      go_enter Try.func17, Try.ntmps17
      go_wp2_with fail
      refine C'.out.mono ?_; rintro e w' ⟨rfl, rfl⟩
      go_wp2_with fail
      refine N'.out.mono ?_; rintro e w' ⟨rfl, rfl⟩
      go_wp2_with fail
      go_ret3
      exact ⟨res3_of Z.out, rfl⟩
    · have Z : Hid (takeU s.data.toList a w = ((num b : Int), a + w, 0)) := Lib.hid (by unfold takeU; rw [ht, if_neg (by simp), if_neg h])
      have d1 : decide ((9223372036854775808 : Int) ≤ (num b : Int)) = false := dle_f (by omega)
      have hI : (num b : Int) ≤ 9223372036854775807 := by omega
      generalize (num b : Int) = y at *
      have C' := Lib.hid C; have N' := Lib.hid N
      clear C N sl ht hl bs nb h
      go_enter Try.func17, Try.ntmps17
      go_wp2_with fail
      refine C'.out.mono ?_; rintro e w' ⟨rfl, rfl⟩
      go_wp2_with fail
      refine N'.out.mono ?_; rintro e w' ⟨rfl, rfl⟩
      go_wp2_with fail
      go_ret3
      exact ⟨res3_of Z.out, rfl⟩
theorem num_from (l : List UInt8) (a : Nat) : l.foldl (fun a c => a * 256 + c.toNat) a = a * 256 ^ l.length + num l := by
  induction l generalizing a with
  | nil => simp [num]
  | cons c r ih =>
    unfold num
    rw [List.foldl_cons, List.foldl_cons, ih, ih (0 * 256 + c.toNat), List.length_cons, Nat.pow_succ, Nat.zero_mul, Nat.zero_add, Nat.add_mul, Nat.mul_assoc, Nat.mul_comm 256, Nat.add_assoc]
theorem num_cons (c : UInt8) (r : List UInt8) : num (c :: r) = c.toNat * 256 ^ r.length + num r := by
  have h := num_from r (0 * 256 + c.toNat)
  rw [show num (c :: r) = r.foldl (fun a c => a * 256 + c.toNat) (0 * 256 + c.toNat) from rfl, h, Nat.zero_mul, Nat.zero_add]
/-- The first byte has the sign. -/
theorem top_byte (b : List UInt8) (c : UInt8) (k : Nat) (h : b.head? = some c) (hl : b.length = k + 1) : (128 ≤ c.toNat ↔ 256 ^ (k + 1) ≤ 2 * num b) := by
  cases b with
  | nil => cases h
  | cons d r =>
    obtain rfl : d = c := Option.some.inj h
    have hr : r.length = k := by simpa using hl
    have n := num_lt r
    rw [num_cons, hr, Nat.pow_succ]
    rw [hr] at n
    generalize 256 ^ k = q at *
    constructor
    · intro h
      have := Nat.mul_le_mul_right q h
      omega
    · intro h
      rcases Nat.lt_or_ge d.toNat 128 with u | u
      · have : d.toNat * q ≤ 127 * q := Nat.mul_le_mul_right q (by omega)
        omega
      · exact u
set_option maxHeartbeats 2000000 in
/-- additiveref02.TakeInt -/
theorem ref_TakeInt (s : ByteArray) (a w : Int) (hs : s.size ≤ 9223372036854775807) (W : World) :
    Calls Try.prog 19 #[.string s, .int .i64 a, .int .i64 w] W fun e W' => e = Res3 (takeI s.data.toList a w) ∧ W = W' := by
  have C := ref_taken s a w hs W
  have sl := wlen s
  rcases taken_cases s.data.toList a w with ⟨e, he, ht⟩ | ⟨b, ht, hl, w1, w8, a0, a1⟩
  · have Z : Hid (takeI s.data.toList a w = (0, 0, e)) := Lib.hid (by unfold takeI; rw [ht, if_pos he])
    rw [ht] at C
    unfold ResS at C
    have C' := Lib.hid C
    have d1 := bne_t he
    clear C sl ht he
    go_enter Try.func19, Try.ntmps19
    go_wp2_with fail
    refine C'.out.mono ?_; rintro e w' ⟨rfl, rfl⟩
    go_wp2_with fail
    go_ret3
    exact ⟨res3_of Z.out, rfl⟩
  obtain ⟨D, hD⟩ : ∃ D : ByteArray, (⟨b.toArray⟩ : ByteArray) = D := ⟨_, rfl⟩
  have dl : D.data.toList = b := by rw [← hD]
  have ds : D.size = b.length := by rw [← hD]; show b.toArray.size = _; simp
  have d0 : 0 < D.size := by omega
  have hc : b.head? = some D[0] := by rw [← dl, List.head?_eq_getElem?]; exact wire_at D 0 d0
  have N := ref_number D (by omega) W
  rw [dl] at N
  rw [ht] at C
  unfold ResS at C
  rw [show (ByteArray.mk ((b, (0 : Int)).fst).toArray) = D from hD] at C
  have aw : a + w ≤ s.size := by omega
  have s1 : (s.size : Int) ≤ 9223372036854775807 := by omega
  have y0 : 0 ≤ (num b : Int) := by omega
  have ec : ∃ x : Int, (D[0].toNat : Int) = x := ⟨_, rfl⟩
  have C' := Lib.hid C; have N' := Lib.hid N
  clear C N hD
  by_cases hk : w = 1
  · subst hk
    have eln : (256 : Nat) ^ (1 : Int).toNat = 256 := by decide
    have el : (256 : Int) ^ (1 : Int).toNat = 256 := by decide
    have tb := top_byte b D[0] 0 hc (by omega)
    rw [show (256 : Nat) ^ (0 + 1) = 256 by decide] at tb
    have h4 : (num b : Int) < 256 := by
      have := num_lt b
      rw [show b.length = 1 by omega, show (256 : Nat) ^ 1 = 256 by decide] at this
      omega
    by_cases h : 128 ≤ D[0].toNat
    · have h2 := tb.1 h
      have Z : Hid (takeI s.data.toList a 1 = ((num b : Int) - 256, a + 1, 0)) := Lib.hid (by unfold takeI; rw [ht, if_neg (by simp), if_pos (by show 256 ^ _ ≤ 2 * num b; rw [eln]; exact h2), el])
      have d1 : decide ((128 : Int) ≤ (D[0].toNat : Int)) = true := dle_t (by omega)
      have h3 : (128 : Int) ≤ (num b : Int) := by omega
      generalize (num b : Int) = y at *
      clear ht hl hc tb dl h h2 el eln ec sl
      go_enter Try.func19, Try.ntmps19
      go_wp2_with fail
      refine C'.out.mono ?_; rintro e w' ⟨rfl, rfl⟩
      go_wp2_with fail
      refine N'.out.mono ?_; rintro e w' ⟨rfl, rfl⟩
      go_wp2_with fail
      go_ret3
      exact ⟨res3_of Z.out, rfl⟩
    · have h2 : ¬ (256 ≤ 2 * num b) := fun e => h (tb.2 e)
      have Z : Hid (takeI s.data.toList a 1 = ((num b : Int), a + 1, 0)) := Lib.hid (by unfold takeI; rw [ht, if_neg (by simp), if_neg (by show ¬ (256 ^ _ ≤ 2 * num b); rw [eln]; exact h2)])
      have d1 : decide ((128 : Int) ≤ (D[0].toNat : Int)) = false := dle_f (by omega)
      have h3 : (num b : Int) < 128 := by omega
      generalize (num b : Int) = y at *
      clear ht hl hc tb dl h h2 el eln ec sl
      go_enter Try.func19, Try.ntmps19
      go_wp2_with fail
      refine C'.out.mono ?_; rintro e w' ⟨rfl, rfl⟩
      go_wp2_with fail
      refine N'.out.mono ?_; rintro e w' ⟨rfl, rfl⟩
      go_wp2_with fail
      go_ret3
      exact ⟨res3_of Z.out, rfl⟩
  by_cases hk : w = 2
  · subst hk
    have eln : (256 : Nat) ^ (2 : Int).toNat = 65536 := by decide
    have el : (256 : Int) ^ (2 : Int).toNat = 65536 := by decide
    have tb := top_byte b D[0] 1 hc (by omega)
    rw [show (256 : Nat) ^ (1 + 1) = 65536 by decide] at tb
    have h4 : (num b : Int) < 65536 := by
      have := num_lt b
      rw [show b.length = 2 by omega, show (256 : Nat) ^ 2 = 65536 by decide] at this
      omega
    by_cases h : 128 ≤ D[0].toNat
    · have h2 := tb.1 h
      have Z : Hid (takeI s.data.toList a 2 = ((num b : Int) - 65536, a + 2, 0)) := Lib.hid (by unfold takeI; rw [ht, if_neg (by simp), if_pos (by show 256 ^ _ ≤ 2 * num b; rw [eln]; exact h2), el])
      have d1 : decide ((128 : Int) ≤ (D[0].toNat : Int)) = true := dle_t (by omega)
      have h3 : (32768 : Int) ≤ (num b : Int) := by omega
      generalize (num b : Int) = y at *
      clear ht hl hc tb dl h h2 el eln ec sl
      go_enter Try.func19, Try.ntmps19
      go_wp2_with fail
      refine C'.out.mono ?_; rintro e w' ⟨rfl, rfl⟩
      go_wp2_with fail
      refine N'.out.mono ?_; rintro e w' ⟨rfl, rfl⟩
      go_wp2_with fail
      go_ret3
      exact ⟨res3_of Z.out, rfl⟩
    · have h2 : ¬ (65536 ≤ 2 * num b) := fun e => h (tb.2 e)
      have Z : Hid (takeI s.data.toList a 2 = ((num b : Int), a + 2, 0)) := Lib.hid (by unfold takeI; rw [ht, if_neg (by simp), if_neg (by show ¬ (256 ^ _ ≤ 2 * num b); rw [eln]; exact h2)])
      have d1 : decide ((128 : Int) ≤ (D[0].toNat : Int)) = false := dle_f (by omega)
      have h3 : (num b : Int) < 32768 := by omega
      generalize (num b : Int) = y at *
      clear ht hl hc tb dl h h2 el eln ec sl
      go_enter Try.func19, Try.ntmps19
      go_wp2_with fail
      refine C'.out.mono ?_; rintro e w' ⟨rfl, rfl⟩
      go_wp2_with fail
      refine N'.out.mono ?_; rintro e w' ⟨rfl, rfl⟩
      go_wp2_with fail
      go_ret3
      exact ⟨res3_of Z.out, rfl⟩
  by_cases hk : w = 3
  · subst hk
    have eln : (256 : Nat) ^ (3 : Int).toNat = 16777216 := by decide
    have el : (256 : Int) ^ (3 : Int).toNat = 16777216 := by decide
    have tb := top_byte b D[0] 2 hc (by omega)
    rw [show (256 : Nat) ^ (2 + 1) = 16777216 by decide] at tb
    have h4 : (num b : Int) < 16777216 := by
      have := num_lt b
      rw [show b.length = 3 by omega, show (256 : Nat) ^ 3 = 16777216 by decide] at this
      omega
    by_cases h : 128 ≤ D[0].toNat
    · have h2 := tb.1 h
      have Z : Hid (takeI s.data.toList a 3 = ((num b : Int) - 16777216, a + 3, 0)) := Lib.hid (by unfold takeI; rw [ht, if_neg (by simp), if_pos (by show 256 ^ _ ≤ 2 * num b; rw [eln]; exact h2), el])
      have d1 : decide ((128 : Int) ≤ (D[0].toNat : Int)) = true := dle_t (by omega)
      have h3 : (8388608 : Int) ≤ (num b : Int) := by omega
      generalize (num b : Int) = y at *
      clear ht hl hc tb dl h h2 el eln ec sl
      go_enter Try.func19, Try.ntmps19
      go_wp2_with fail
      refine C'.out.mono ?_; rintro e w' ⟨rfl, rfl⟩
      go_wp2_with fail
      refine N'.out.mono ?_; rintro e w' ⟨rfl, rfl⟩
      go_wp2_with fail
      go_ret3
      exact ⟨res3_of Z.out, rfl⟩
    · have h2 : ¬ (16777216 ≤ 2 * num b) := fun e => h (tb.2 e)
      have Z : Hid (takeI s.data.toList a 3 = ((num b : Int), a + 3, 0)) := Lib.hid (by unfold takeI; rw [ht, if_neg (by simp), if_neg (by show ¬ (256 ^ _ ≤ 2 * num b); rw [eln]; exact h2)])
      have d1 : decide ((128 : Int) ≤ (D[0].toNat : Int)) = false := dle_f (by omega)
      have h3 : (num b : Int) < 8388608 := by omega
      generalize (num b : Int) = y at *
      clear ht hl hc tb dl h h2 el eln ec sl
      go_enter Try.func19, Try.ntmps19
      go_wp2_with fail
      refine C'.out.mono ?_; rintro e w' ⟨rfl, rfl⟩
      go_wp2_with fail
      refine N'.out.mono ?_; rintro e w' ⟨rfl, rfl⟩
      go_wp2_with fail
      go_ret3
      exact ⟨res3_of Z.out, rfl⟩
  by_cases hk : w = 4
  · subst hk
    have eln : (256 : Nat) ^ (4 : Int).toNat = 4294967296 := by decide
    have el : (256 : Int) ^ (4 : Int).toNat = 4294967296 := by decide
    have tb := top_byte b D[0] 3 hc (by omega)
    rw [show (256 : Nat) ^ (3 + 1) = 4294967296 by decide] at tb
    have h4 : (num b : Int) < 4294967296 := by
      have := num_lt b
      rw [show b.length = 4 by omega, show (256 : Nat) ^ 4 = 4294967296 by decide] at this
      omega
    by_cases h : 128 ≤ D[0].toNat
    · have h2 := tb.1 h
      have Z : Hid (takeI s.data.toList a 4 = ((num b : Int) - 4294967296, a + 4, 0)) := Lib.hid (by unfold takeI; rw [ht, if_neg (by simp), if_pos (by show 256 ^ _ ≤ 2 * num b; rw [eln]; exact h2), el])
      have d1 : decide ((128 : Int) ≤ (D[0].toNat : Int)) = true := dle_t (by omega)
      have h3 : (2147483648 : Int) ≤ (num b : Int) := by omega
      generalize (num b : Int) = y at *
      clear ht hl hc tb dl h h2 el eln ec sl
      go_enter Try.func19, Try.ntmps19
      go_wp2_with fail
      refine C'.out.mono ?_; rintro e w' ⟨rfl, rfl⟩
      go_wp2_with fail
      refine N'.out.mono ?_; rintro e w' ⟨rfl, rfl⟩
      go_wp2_with fail
      go_ret3
      exact ⟨res3_of Z.out, rfl⟩
    · have h2 : ¬ (4294967296 ≤ 2 * num b) := fun e => h (tb.2 e)
      have Z : Hid (takeI s.data.toList a 4 = ((num b : Int), a + 4, 0)) := Lib.hid (by unfold takeI; rw [ht, if_neg (by simp), if_neg (by show ¬ (256 ^ _ ≤ 2 * num b); rw [eln]; exact h2)])
      have d1 : decide ((128 : Int) ≤ (D[0].toNat : Int)) = false := dle_f (by omega)
      have h3 : (num b : Int) < 2147483648 := by omega
      generalize (num b : Int) = y at *
      clear ht hl hc tb dl h h2 el eln ec sl
      go_enter Try.func19, Try.ntmps19
      go_wp2_with fail
      refine C'.out.mono ?_; rintro e w' ⟨rfl, rfl⟩
      go_wp2_with fail
      refine N'.out.mono ?_; rintro e w' ⟨rfl, rfl⟩
      go_wp2_with fail
      go_ret3
      exact ⟨res3_of Z.out, rfl⟩
  by_cases hk : w = 5
  · subst hk
    have eln : (256 : Nat) ^ (5 : Int).toNat = 1099511627776 := by decide
    have el : (256 : Int) ^ (5 : Int).toNat = 1099511627776 := by decide
    have tb := top_byte b D[0] 4 hc (by omega)
    rw [show (256 : Nat) ^ (4 + 1) = 1099511627776 by decide] at tb
    have h4 : (num b : Int) < 1099511627776 := by
      have := num_lt b
      rw [show b.length = 5 by omega, show (256 : Nat) ^ 5 = 1099511627776 by decide] at this
      omega
    by_cases h : 128 ≤ D[0].toNat
    · have h2 := tb.1 h
      have Z : Hid (takeI s.data.toList a 5 = ((num b : Int) - 1099511627776, a + 5, 0)) := Lib.hid (by unfold takeI; rw [ht, if_neg (by simp), if_pos (by show 256 ^ _ ≤ 2 * num b; rw [eln]; exact h2), el])
      have d1 : decide ((128 : Int) ≤ (D[0].toNat : Int)) = true := dle_t (by omega)
      have h3 : (549755813888 : Int) ≤ (num b : Int) := by omega
      generalize (num b : Int) = y at *
      clear ht hl hc tb dl h h2 el eln ec sl
      go_enter Try.func19, Try.ntmps19
      go_wp2_with fail
      refine C'.out.mono ?_; rintro e w' ⟨rfl, rfl⟩
      go_wp2_with fail
      refine N'.out.mono ?_; rintro e w' ⟨rfl, rfl⟩
      go_wp2_with fail
      go_ret3
      exact ⟨res3_of Z.out, rfl⟩
    · have h2 : ¬ (1099511627776 ≤ 2 * num b) := fun e => h (tb.2 e)
      have Z : Hid (takeI s.data.toList a 5 = ((num b : Int), a + 5, 0)) := Lib.hid (by unfold takeI; rw [ht, if_neg (by simp), if_neg (by show ¬ (256 ^ _ ≤ 2 * num b); rw [eln]; exact h2)])
      have d1 : decide ((128 : Int) ≤ (D[0].toNat : Int)) = false := dle_f (by omega)
      have h3 : (num b : Int) < 549755813888 := by omega
      generalize (num b : Int) = y at *
      clear ht hl hc tb dl h h2 el eln ec sl
      go_enter Try.func19, Try.ntmps19
      go_wp2_with fail
      refine C'.out.mono ?_; rintro e w' ⟨rfl, rfl⟩
      go_wp2_with fail
      refine N'.out.mono ?_; rintro e w' ⟨rfl, rfl⟩
      go_wp2_with fail
      go_ret3
      exact ⟨res3_of Z.out, rfl⟩
  by_cases hk : w = 6
  · subst hk
    have eln : (256 : Nat) ^ (6 : Int).toNat = 281474976710656 := by decide
    have el : (256 : Int) ^ (6 : Int).toNat = 281474976710656 := by decide
    have tb := top_byte b D[0] 5 hc (by omega)
    rw [show (256 : Nat) ^ (5 + 1) = 281474976710656 by decide] at tb
    have h4 : (num b : Int) < 281474976710656 := by
      have := num_lt b
      rw [show b.length = 6 by omega, show (256 : Nat) ^ 6 = 281474976710656 by decide] at this
      omega
    by_cases h : 128 ≤ D[0].toNat
    · have h2 := tb.1 h
      have Z : Hid (takeI s.data.toList a 6 = ((num b : Int) - 281474976710656, a + 6, 0)) := Lib.hid (by unfold takeI; rw [ht, if_neg (by simp), if_pos (by show 256 ^ _ ≤ 2 * num b; rw [eln]; exact h2), el])
      have d1 : decide ((128 : Int) ≤ (D[0].toNat : Int)) = true := dle_t (by omega)
      have h3 : (140737488355328 : Int) ≤ (num b : Int) := by omega
      generalize (num b : Int) = y at *
      clear ht hl hc tb dl h h2 el eln ec sl
      go_enter Try.func19, Try.ntmps19
      go_wp2_with fail
      refine C'.out.mono ?_; rintro e w' ⟨rfl, rfl⟩
      go_wp2_with fail
      refine N'.out.mono ?_; rintro e w' ⟨rfl, rfl⟩
      go_wp2_with fail
      go_ret3
      exact ⟨res3_of Z.out, rfl⟩
    · have h2 : ¬ (281474976710656 ≤ 2 * num b) := fun e => h (tb.2 e)
      have Z : Hid (takeI s.data.toList a 6 = ((num b : Int), a + 6, 0)) := Lib.hid (by unfold takeI; rw [ht, if_neg (by simp), if_neg (by show ¬ (256 ^ _ ≤ 2 * num b); rw [eln]; exact h2)])
      have d1 : decide ((128 : Int) ≤ (D[0].toNat : Int)) = false := dle_f (by omega)
      have h3 : (num b : Int) < 140737488355328 := by omega
      generalize (num b : Int) = y at *
      clear ht hl hc tb dl h h2 el eln ec sl
      go_enter Try.func19, Try.ntmps19
      go_wp2_with fail
      refine C'.out.mono ?_; rintro e w' ⟨rfl, rfl⟩
      go_wp2_with fail
      refine N'.out.mono ?_; rintro e w' ⟨rfl, rfl⟩
      go_wp2_with fail
      go_ret3
      exact ⟨res3_of Z.out, rfl⟩
  by_cases hk : w = 7
  · subst hk
    have eln : (256 : Nat) ^ (7 : Int).toNat = 72057594037927936 := by decide
    have el : (256 : Int) ^ (7 : Int).toNat = 72057594037927936 := by decide
    have tb := top_byte b D[0] 6 hc (by omega)
    rw [show (256 : Nat) ^ (6 + 1) = 72057594037927936 by decide] at tb
    have h4 : (num b : Int) < 72057594037927936 := by
      have := num_lt b
      rw [show b.length = 7 by omega, show (256 : Nat) ^ 7 = 72057594037927936 by decide] at this
      omega
    by_cases h : 128 ≤ D[0].toNat
    · have h2 := tb.1 h
      have Z : Hid (takeI s.data.toList a 7 = ((num b : Int) - 72057594037927936, a + 7, 0)) := Lib.hid (by unfold takeI; rw [ht, if_neg (by simp), if_pos (by show 256 ^ _ ≤ 2 * num b; rw [eln]; exact h2), el])
      have d1 : decide ((128 : Int) ≤ (D[0].toNat : Int)) = true := dle_t (by omega)
      have h3 : (36028797018963968 : Int) ≤ (num b : Int) := by omega
      generalize (num b : Int) = y at *
      clear ht hl hc tb dl h h2 el eln ec sl
      go_enter Try.func19, Try.ntmps19
      go_wp2_with fail
      refine C'.out.mono ?_; rintro e w' ⟨rfl, rfl⟩
      go_wp2_with fail
      refine N'.out.mono ?_; rintro e w' ⟨rfl, rfl⟩
      go_wp2_with fail
      go_ret3
      exact ⟨res3_of Z.out, rfl⟩
    · have h2 : ¬ (72057594037927936 ≤ 2 * num b) := fun e => h (tb.2 e)
      have Z : Hid (takeI s.data.toList a 7 = ((num b : Int), a + 7, 0)) := Lib.hid (by unfold takeI; rw [ht, if_neg (by simp), if_neg (by show ¬ (256 ^ _ ≤ 2 * num b); rw [eln]; exact h2)])
      have d1 : decide ((128 : Int) ≤ (D[0].toNat : Int)) = false := dle_f (by omega)
      have h3 : (num b : Int) < 36028797018963968 := by omega
      generalize (num b : Int) = y at *
      clear ht hl hc tb dl h h2 el eln ec sl
      go_enter Try.func19, Try.ntmps19
      go_wp2_with fail
      refine C'.out.mono ?_; rintro e w' ⟨rfl, rfl⟩
      go_wp2_with fail
      refine N'.out.mono ?_; rintro e w' ⟨rfl, rfl⟩
      go_wp2_with fail
      go_ret3
      exact ⟨res3_of Z.out, rfl⟩
  by_cases hk : w = 8
  · subst hk
    have eln : (256 : Nat) ^ (8 : Int).toNat = 18446744073709551616 := by decide
    have el : (256 : Int) ^ (8 : Int).toNat = 18446744073709551616 := by decide
    have tb := top_byte b D[0] 7 hc (by omega)
    rw [show (256 : Nat) ^ (7 + 1) = 18446744073709551616 by decide] at tb
    have h4 : (num b : Int) < 18446744073709551616 := by
      have := num_lt b
      rw [show b.length = 8 by omega, show (256 : Nat) ^ 8 = 18446744073709551616 by decide] at this
      omega
    by_cases h : 128 ≤ D[0].toNat
    · have h2 := tb.1 h
      have Z : Hid (takeI s.data.toList a 8 = ((num b : Int) - 18446744073709551616, a + 8, 0)) := Lib.hid (by unfold takeI; rw [ht, if_neg (by simp), if_pos (by show 256 ^ _ ≤ 2 * num b; rw [eln]; exact h2), el])
      have d1 : decide ((128 : Int) ≤ (D[0].toNat : Int)) = true := dle_t (by omega)
      have h3 : (9223372036854775808 : Int) ≤ (num b : Int) := by omega
      generalize (num b : Int) = y at *
      clear ht hl hc tb dl h h2 el eln ec sl
      have wy : wrap64 y = y - 18446744073709551616 := by unfold wrap64; omega
      go_enter Try.func19, Try.ntmps19
      go_wp2_with fail
      refine C'.out.mono ?_; rintro e w' ⟨rfl, rfl⟩
      go_wp2_with fail
      refine N'.out.mono ?_; rintro e w' ⟨rfl, rfl⟩
      go_wp2_with fail
      go_ret3
      exact ⟨res3_of (by first | exact Z.out | (rw [wy]; exact Z.out)), rfl⟩
    · have h2 : ¬ (18446744073709551616 ≤ 2 * num b) := fun e => h (tb.2 e)
      have Z : Hid (takeI s.data.toList a 8 = ((num b : Int), a + 8, 0)) := Lib.hid (by unfold takeI; rw [ht, if_neg (by simp), if_neg (by show ¬ (256 ^ _ ≤ 2 * num b); rw [eln]; exact h2)])
      have d1 : decide ((128 : Int) ≤ (D[0].toNat : Int)) = false := dle_f (by omega)
      have h3 : (num b : Int) < 9223372036854775808 := by omega
      generalize (num b : Int) = y at *
      clear ht hl hc tb dl h h2 el eln ec sl
      go_enter Try.func19, Try.ntmps19
      go_wp2_with fail
      refine C'.out.mono ?_; rintro e w' ⟨rfl, rfl⟩
      go_wp2_with fail
      refine N'.out.mono ?_; rintro e w' ⟨rfl, rfl⟩
      go_wp2_with fail
      go_ret3
      exact ⟨res3_of Z.out, rfl⟩
  omega
def ResSI (p : List UInt8 × Int × Int) : Ending := .returned (.tuple #[.string ⟨p.1.toArray⟩, .int .i64 p.2.1, .int .i64 p.2.2])
theorem resSI_of {p : List UInt8 × Int × Int} {l : List UInt8} {x y : Int} (h : p = (l, x, y)) : Ending.returned (.tuple #[.string ⟨l.toArray⟩, .int .i64 x, .int .i64 y]) = ResSI p := by rw [h]; rfl
/-- What TakeText answers. -/
def takeT (l : List UInt8) (a m : Int) : List UInt8 × Int × Int :=
  if a < 0 ∨ (l.length : Int) < a ∨ m < 0 then ([], 0, 1) else if (l.length : Int) - a < 2 then ([], 0, 6)
  else if m < num ((l.drop a.toNat).take 2) then ([], 0, 2) else if (l.length : Int) - a - 2 < num ((l.drop a.toNat).take 2) then ([], 0, 6)
  else ((l.drop (a.toNat + 2)).take (num ((l.drop a.toNat).take 2)), a + 2 + num ((l.drop a.toNat).take 2), 0)
theorem extract_at (s : ByteArray) (i k : Nat) : s.extract i (i + k) = ⟨((s.data.toList.drop i).take k).toArray⟩ := by
  apply ByteArray.ext; apply Array.toList_inj.1
  rw [Lib.extract_data]; simp
set_option maxHeartbeats 1000000 in
/-- additiveref02.TakeText -/
theorem ref_TakeText (s : ByteArray) (a m : Int) (hs : s.size ≤ 9223372036854775807) (W : World) :
    Calls Try.prog 23 #[.string s, .int .i64 a, .int .i64 m] W fun e W' => e = ResSI (takeT s.data.toList a m) ∧ W = W' := by
  have sl := wlen s
  have s1 : (s.size : Int) ≤ 9223372036854775807 := by omega
  by_cases h1 : a < 0
  · have Z : Hid (takeT s.data.toList a m = ([], 0, 1)) := Lib.hid (by unfold takeT; rw [if_pos (.inl h1)])
    have d1 := dlt_t h1
    clear sl
    go_enter Try.func23, Try.ntmps23
    go_wp2_with fail
    go_ret3
    exact ⟨resSI_of Z.out, rfl⟩
  have d1 : decide (a < 0) = false := dlt_f (by omega)
  by_cases h2 : (s.size : Int) < a
  · have Z : Hid (takeT s.data.toList a m = ([], 0, 1)) := Lib.hid (by unfold takeT; rw [if_pos (.inr (.inl (by rw [sl]; exact h2)))])
    have d2 := dlt_t h2
    clear sl
    go_enter Try.func23, Try.ntmps23
    go_wp2_with fail
    go_ret3
    exact ⟨resSI_of Z.out, rfl⟩
  have d2 : decide ((s.size : Int) < a) = false := dlt_f (by omega)
  by_cases h3 : m < 0
  · have Z : Hid (takeT s.data.toList a m = ([], 0, 1)) := Lib.hid (by unfold takeT; rw [if_pos (.inr (.inr h3))])
    have d3 := dlt_t h3
    clear sl
    go_enter Try.func23, Try.ntmps23
    go_wp2_with fail
    go_ret3
    exact ⟨resSI_of Z.out, rfl⟩
  have d3 : decide (m < 0) = false := dlt_f (by omega)
  have hn : ¬ (a < 0 ∨ (s.data.toList.length : Int) < a ∨ m < 0) := by rw [sl]; omega
  have a0 : 0 ≤ a := by omega
  have a1 : a ≤ s.size := by omega
  have m0 : 0 ≤ m := by omega
  by_cases h4 : (s.size : Int) - a < 2
  · have Z : Hid (takeT s.data.toList a m = ([], 0, 6)) := Lib.hid (by unfold takeT; rw [if_neg hn, sl, if_pos h4])
    clear sl hn
    go_enter Try.func23, Try.ntmps23
    go_wp2_with fail
    go_ret3
    exact ⟨resSI_of Z.out, rfl⟩
  have h5 : 2 ≤ (s.size : Int) - a := by omega
  obtain ⟨i, rfl⟩ : ∃ i : Nat, a = i := ⟨a.toNat, by omega⟩
  obtain ⟨b, hb⟩ : ∃ b, (s.data.toList.drop i).take 2 = b := ⟨_, rfl⟩
  have bl : b.length = 2 := by rw [← hb, List.length_take, List.length_drop, sl]; omega
  have sr := slice_lh W s (i : Int) ((i : Int) + 2) (by omega) (by omega) (by omega)
  rw [show (i : Int).toNat = i by omega, show ((i : Int) + 2).toNat = i + 2 by omega, extract_at, hb] at sr
  have N := ref_number ⟨b.toArray⟩ (by show b.toArray.size ≤ 8; simp; omega) W
  rw [show (ByteArray.mk b.toArray).data.toList = b by simp] at N
  have nb : num b < 65536 := by have := num_lt b; rw [bl] at this; exact this
  obtain ⟨k, hk⟩ : ∃ k : Nat, num b = k := ⟨_, rfl⟩
  have tk : takeT s.data.toList i m = if m < (k : Int) then ([], 0, 2) else if (s.size : Int) - i - 2 < (k : Int) then ([], 0, 6) else ((s.data.toList.drop (i + 2)).take k, (i : Int) + 2 + k, 0) := by
    unfold takeT
    rw [if_neg hn, sl, if_neg h4, show (i : Int).toNat = i by omega, hb, hk]
  rw [hk] at N nb
  have N' := Lib.hid N
  have k0 : (0 : Int) ≤ k := by omega
  have k1 : (k : Int) ≤ 65535 := by omega
  by_cases h6 : m < k
  · have Z : Hid (takeT s.data.toList i m = ([], 0, 2)) := Lib.hid (by rw [tk, if_pos h6])
    clear N tk hk nb bl hb hn sl h4
    go_enter Try.func23, Try.ntmps23
    go_wp2_with fail
    refine N'.out.mono ?_; rintro e w' ⟨rfl, rfl⟩
    go_wp2_with fail
    go_ret3
    exact ⟨resSI_of Z.out, rfl⟩
  by_cases h7 : (s.size : Int) - i - 2 < k
  · have Z : Hid (takeT s.data.toList i m = ([], 0, 6)) := Lib.hid (by rw [tk, if_neg h6, if_pos h7])
    have h6' : (k : Int) ≤ m := by omega
    clear N tk hk nb bl hb hn sl h4 h6
    go_enter Try.func23, Try.ntmps23
    go_wp2_with fail
    refine N'.out.mono ?_; rintro e w' ⟨rfl, rfl⟩
    go_wp2_with fail
    go_ret3
    exact ⟨resSI_of Z.out, rfl⟩
  · have Z : Hid (takeT s.data.toList i m = ((s.data.toList.drop (i + 2)).take k, (i : Int) + 2 + k, 0)) := Lib.hid (by rw [tk, if_neg h6, if_neg h7])
    have sr2 := slice_lh W s ((i : Int) + 2) ((i : Int) + 2 + k) (by omega) (by omega) (by omega)
    rw [show ((i : Int) + 2).toNat = i + 2 by omega, show ((i : Int) + 2 + k).toNat = i + 2 + k by omega, extract_at] at sr2
    have h6' : (k : Int) ≤ m := by omega
    have h7' : (k : Int) ≤ (s.size : Int) - i - 2 := by omega
    clear N tk hk nb bl hb hn sl h4 h6 h7
    go_enter Try.func23, Try.ntmps23
    go_wp2_with fail
    refine N'.out.mono ?_; rintro e w' ⟨rfl, rfl⟩
    go_wp2_with fail
    go_ret3
    exact ⟨resSI_of Z.out, rfl⟩
end Go.Proofs.Ytpckhcnlffddcaa
