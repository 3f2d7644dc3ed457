/-
  The walk of the law NumTexts: the text of every number is the document's, and is read back as the number.
-/
import Derived.Test.YtflalomgifeaaaaDoorLawA
import Derived.Test.YtflalomgifeaaaaDoorRefF
namespace Go.Proofs.YtflalomgifeaaaaDoor
open Go.RowKit
theorem digit_byte (k : Nat) (h : k < 10) : dgt (UInt8.ofNat (48 + k)) = true ∧ (UInt8.ofNat (48 + k)).toNat - 48 = k ∧ (UInt8.ofNat (48 + k) = 48 → k = 0) ∧ UInt8.ofNat (48 + k) ≠ 45 := by
  have e : (UInt8.ofNat (48 + k)).toNat = 48 + k := by
    rw [UInt8.toNat_ofNat']; exact Nat.mod_eq_of_lt (by omega)
  refine ⟨(dgt_iff _).2 (by omega), by omega, fun h0 => ?_, fun h0 => ?_⟩
  · rw [h0] at e; simp at e; omega
  · rw [h0] at e; simp at e; omega
/-- The digits of a number: all are digits, they say the number, and none but 0 begins with a zero. -/
theorem dec_facts (u : Nat) : (Lib.decDigits u).all dgt = true ∧ val (Lib.decDigits u) = u ∧ (∃ c r, Lib.decDigits u = c :: r ∧ c ≠ 45 ∧ (c = 48 → u = 0)) ∧ (u = 0 → Lib.decDigits u = [48]) := by
  induction u using Nat.strongRecOn with
  | _ u ih =>
    by_cases h : u < 10
    · obtain ⟨d1, d2, d3, d4⟩ := digit_byte u h
      rw [Lib.decDigits, dif_pos h]
      have z : u = 0 → UInt8.ofNat (48 + u) = 48 := fun e => by subst e; rfl
      generalize UInt8.ofNat (48 + u) = c at *
      refine ⟨by simp [d1], by simp [val, d2], ⟨_, [], rfl, d4, d3⟩, fun h0 => by rw [z h0]⟩
    · obtain ⟨i1, i2, ⟨c, r, i3, i4, i5⟩, _⟩ := ih (u / 10) (by omega)
      obtain ⟨d1, d2, _, _⟩ := digit_byte (u % 10) (by omega)
      rw [Lib.decDigits, dif_neg h]
      generalize UInt8.ofNat (48 + u % 10) = c' at *
      refine ⟨by rw [List.all_append, i1]; simp [d1], by rw [val_snoc, i2, d2]; omega, ⟨c, r ++ [c'], by rw [i3]; rfl, i4, fun h0 => ?_⟩, fun h0 => by omega⟩
      have := i5 h0
      omega
theorem prs_dec (neg : Bool) (u : Nat) (h : ¬ (neg = true ∧ u = 0)) : prs neg (Lib.decDigits u) = if neg = true then (if u ≤ 9223372036854775808 then (-(u : Int), 0) else (0, 3)) else (if u < 9223372036854775808 then ((u : Int), 0) else (0, 3)) := by
  obtain ⟨h1, h2, ⟨c, r, h3, h4, h5⟩, h6⟩ := dec_facts u
  unfold prs
  rw [h1, h2, if_neg]
  intro hc
  rcases hc with hc | ⟨hc, hc2⟩ | hc
  · rw [h3] at hc; cases hc
  · rw [h3] at hc
    have u0 := h5 (by simpa using hc)
    rcases hc2 with e | e
    · exact h ⟨e, u0⟩
    · rw [h6 u0] at e; simp at e
  · cases hc
theorem prs_itoa (n : Int) (h0 : -9223372036854775808 ≤ n) (h1 : n ≤ 9223372036854775807) : prs (cut (Lib.itoa n)).1 (cut (Lib.itoa n)).2 = (n, 0) := by
  unfold Lib.itoa
  by_cases h : n < 0
  · rw [if_pos h]
    have e : cut (45 :: Lib.decDigits n.natAbs) = (true, Lib.decDigits n.natAbs) := by simp [cut, Lib.trimPrefix, Lib.hasPrefix, List.isPrefixOf]
    rw [e]
    show prs true (Lib.decDigits n.natAbs) = _
    rw [prs_dec true _ (by omega), if_pos rfl, if_pos (by omega)]
    congr 1; omega
  · rw [if_neg h]
    obtain ⟨_, _, ⟨c, r, h3, h4, _⟩, _⟩ := dec_facts n.toNat
    have e : cut (Lib.decDigits n.toNat) = (false, Lib.decDigits n.toNat) := by
      rw [h3]
      have : (45 == c) = false := by simpa using fun e : (45 : UInt8) = c => h4 e.symm
      simp [cut, Lib.trimPrefix, Lib.hasPrefix, List.isPrefixOf, this]
    rw [e]
    show prs false (Lib.decDigits n.toNat) = _
    rw [prs_dec false _ (by simp), if_neg (by simp), if_pos (by omega)]
    congr 1; omega
theorem itoa_len (n : Int) (h0 : -9223372036854775808 ≤ n) (h1 : n ≤ 9223372036854775807) : (Lib.itoa n).length ≤ 21 := by
  unfold Lib.itoa
  have a := dec_len n.natAbs (by omega)
  have b := dec_len n.toNat (by omega)
  split <;> simp <;> omega
set_option maxHeartbeats 1000000 in
theorem law_NumTexts (n : Int) (n0 : -9223372036854775808 ≤ n) (n1 : n ≤ 9223372036854775807) (w : World) (ht : Tab w) :
    Calls Tryd.prog 7 #[.int .i64 n] w fun e w' => e = .returned (.bool true) ∧ Ext w w' := by
  have c1 := num_Format n n0 n1
  have c2 := ref_Format n n0 n1
  have c3 := num_Parse ⟨(Lib.itoa n).toArray⟩ (by
    show (Lib.itoa n).toArray.size ≤ _
    have := itoa_len n n0 n1
    simp; omega)
  rw [show (ByteArray.mk (Lib.itoa n).toArray).data.toList = Lib.itoa n by simp, prs_itoa n n0 n1] at c3
  unfold Res at c3
  have hb : ((⟨(Lib.itoa n).toArray⟩ : ByteArray).size : Int) ≤ 21 := by
    have := itoa_len n n0 n1
    have e : (⟨(Lib.itoa n).toArray⟩ : ByteArray).size = (Lib.itoa n).length := by show (Lib.itoa n).toArray.size = _; simp
    omega
  generalize (⟨(Lib.itoa n).toArray⟩ : ByteArray) = s at *
  have C1 := Lib.hid c1; have C2 := Lib.hid c2; have C3 := Lib.hid c3
  clear c1 c2 c3
  go_enter Tryd.func7, Tryd.ntmps7
  go_wp2_with fail
  refine (C1.out _ ht).mono ?_; rintro e w1 ⟨rfl, h1⟩
  go_wp2_with fail
  refine (C3.out _).mono ?_; rintro e w' ⟨rfl, rfl⟩
  go_wp2_with fail
  refine (C2.out _).mono ?_; rintro e w2 ⟨rfl, h2⟩
  go_wp2_with fail
  refine (law_awake _ (ht.ext (h1.trans h2))).mono ?_; rintro e w3 ⟨rfl, h3⟩
  go_wp2_with fail
  go_ret
  exact ⟨rfl, (h1.trans h2).trans h3⟩
end Go.Proofs.YtflalomgifeaaaaDoor
