/-
  The number that a text of digits says, and what Parse answers: plain lists of bytes. No program is named here.
-/
import Derived.Test.YtflalomgifeaaaaDoorArith
namespace Go.Proofs.YtflalomgifeaaaaDoor
open Go.RowKit
def dgt (c : UInt8) : Bool := decide (48 ≤ c.toNat) && decide (c.toNat ≤ 57)
def val (l : List UInt8) : Nat := l.foldl (fun a c => 10 * a + (c.toNat - 48)) 0
theorem val_snoc (l : List UInt8) (c : UInt8) : val (l ++ [c]) = 10 * val l + (c.toNat - 48) := by simp [val, List.foldl_append]
/-- What Parse answers for the digits l, behind a '-' or not. -/
def prs (neg : Bool) (l : List UInt8) : Int × Int :=
  if l = [] ∨ (l.head? = some 48 ∧ (neg = true ∨ 2 ≤ l.length)) ∨ l.all dgt = false then (0, 5)
  else if neg = true then (if val l ≤ 9223372036854775808 then (-(val l : Int), 0) else (0, 3))
  else (if val l < 9223372036854775808 then ((val l : Int), 0) else (0, 3))
theorem dgt_iff (c : UInt8) : dgt c = true ↔ 48 ≤ (c.toNat : Int) ∧ (c.toNat : Int) ≤ 57 := by
  unfold dgt; rw [Bool.and_eq_true, decide_eq_true_iff, decide_eq_true_iff]; omega
/-- Behind k rounds of the scan. -/
structure PRel (l : List UInt8) (k : Nat) (y : Int) (b : Bool) : Prop where
  dig : (l.take k).all dgt = true
  head : 2 ≤ k → l.head? ≠ some 48
  fits : b = decide (val (l.take k) ≤ 9223372036854775808)
  value : b = true → y = -(val (l.take k) : Int)
theorem take_one {l : List UInt8} {k : Nat} {c : UInt8} (h : l[k]? = some c) : l.take (k + 1) = l.take k ++ [c] := by
  rw [List.take_add_one, h]; rfl
theorem PRel.start (l : List UInt8) : PRel l 0 0 true := ⟨rfl, fun h => absurd h (by decide), by simp [val], fun _ => by simp [val]⟩
theorem PRel.next_no {l : List UInt8} {k : Nat} {y y' : Int} {c : UInt8} (h : PRel l k y false) (hk : l[k]? = some c) (hd : dgt c = true) (hz : k = 1 → l.head? ≠ some 48) : PRel l (k + 1) y' false := by
  have hf := h.fits
  have hv : 9223372036854775808 < val (l.take k) := by
    rcases Nat.lt_or_ge 9223372036854775808 (val (l.take k)) with u | u
    · exact u
    · rw [decide_eq_true u] at hf; cases hf
  refine ⟨by rw [take_one hk, List.all_append, h.dig]; simp [hd], fun h2 => ?_, ?_, fun e => by cases e⟩
  · by_cases e : k = 1
    · exact hz e
    · exact h.head (by omega)
  · rw [take_one hk, val_snoc, decide_eq_false (by omega)]
theorem step_fits {V d y : Int} (hy : y = -V) (V0 : 0 ≤ V) (V1 : V ≤ 9223372036854775808) (d0 : 0 ≤ d) (d1 : d ≤ 9) :
    ((-9223372036854775808 + d).tdiv 10 ≤ y ↔ 10 * V + d ≤ 9223372036854775808) ∧ (10 * V + d ≤ 9223372036854775808 → wrap64 (wrap64 (10 * y) - d) = -(10 * V + d)) := by
  have e : (-9223372036854775808 + d).tdiv 10 = -((9223372036854775808 - d) / 10) := by
    rw [show (-9223372036854775808 + d) = -(9223372036854775808 - d) by omega, Int.neg_tdiv, Int.tdiv_eq_ediv_of_nonneg (by omega)]
  rw [e]
  refine ⟨by omega, fun h => ?_⟩
  rw [IntWalk.wrap64_in (10 * y) (by omega), IntWalk.wrap64_in _ (by omega)]
  omega
theorem PRel.next_yes {l : List UInt8} {k : Nat} {y : Int} {c : UInt8} (h : PRel l k y true) (hk : l[k]? = some c) (hd : dgt c = true) (hz : k = 1 → l.head? ≠ some 48) :
    PRel l (k + 1) (wrap64 (wrap64 (10 * y) - ((c.toNat : Int) - 48))) (decide ((-9223372036854775808 + ((c.toNat : Int) - 48)).tdiv 10 ≤ y)) := by
  have hv : val (l.take k) ≤ 9223372036854775808 := of_decide_eq_true h.fits.symm
  have hc := (dgt_iff c).1 hd
  obtain ⟨s1, s2⟩ := step_fits (V := (val (l.take k) : Int)) (d := (c.toNat : Int) - 48) (h.value rfl) (by omega) (by omega) (by omega) (by omega)
  have e : ((10 * val (l.take k) + (c.toNat - 48) : Nat) : Int) = 10 * (val (l.take k) : Int) + ((c.toNat : Int) - 48) := by omega
  refine ⟨by rw [take_one hk, List.all_append, h.dig]; simp [hd], fun h2 => ?_, ?_, fun hb => ?_⟩
  · by_cases e : k = 1
    · exact hz e
    · exact h.head (by omega)
  · rw [take_one hk, val_snoc, decide_eq_decide, s1]; omega
  · have := s1.1 (of_decide_eq_true hb)
    rw [take_one hk, val_snoc, e, s2 this]
theorem PRel.bounds {l : List UInt8} {k : Nat} {y : Int} (h : PRel l k y true) : -9223372036854775808 ≤ y ∧ y ≤ 0 := by
  have := of_decide_eq_true h.fits.symm
  have := h.value rfl
  omega
/-- Where the scan meets something that is no digit. -/
theorem prs_bad {neg : Bool} {l : List UInt8} {k : Nat} {c : UInt8} (hk : l[k]? = some c) (hd : dgt c = false) : prs neg l = (0, 5) := by
  unfold prs
  rw [if_pos]
  refine .inr (.inr ?_)
  rw [List.all_eq_false]
  exact ⟨c, List.mem_of_getElem? hk, by rw [hd]; decide⟩
/-- Where a zero stands ahead of another digit. -/
theorem prs_zero {neg : Bool} {l : List UInt8} (h : l.head? = some 48) (hl : 2 ≤ l.length) : prs neg l = (0, 5) := by
  unfold prs; rw [if_pos (.inr (.inl ⟨h, .inr hl⟩))]
theorem prs_nil {neg : Bool} : prs neg [] = (0, 5) := by unfold prs; rw [if_pos (.inl rfl)]
theorem prs_minus_zero : prs true [48] = (0, 5) := by decide
/-- At the end of the digits. -/
theorem prs_end {neg : Bool} {l : List UInt8} {y : Int} {b : Bool} (h : PRel l l.length y b) (hl : 0 < l.length) (hz : ¬ (neg = true ∧ l = [48])) :
    prs neg l = if b = false ∨ (neg = false ∧ y = -9223372036854775808) then (0, 3) else if neg = true then (y, 0) else (-y, 0) := by
  have hd := h.dig
  have hf := h.fits
  have hv := h.value
  rw [List.take_length] at hd hf hv
  unfold prs
  rw [if_neg]
  · cases b
    · have : 9223372036854775808 < val l := by
        rcases Nat.lt_or_ge 9223372036854775808 (val l) with u | u
        · exact u
        · rw [decide_eq_true u] at hf; cases hf
      have g1 : ¬ val l ≤ 9223372036854775808 := by omega
      have g2 : ¬ val l < 9223372036854775808 := by omega
      rw [if_neg g1, if_neg g2, ite_self]
      simp
    · have hv' := hv rfl
      have : val l ≤ 9223372036854775808 := of_decide_eq_true hf.symm
      cases neg
      · simp only [Bool.true_eq_false, false_or, true_and, Bool.false_eq_true, if_false]
        by_cases e : val l < 9223372036854775808
        · rw [if_pos e, if_neg (by omega)]; rw [hv']; simp
        · rw [if_neg e, if_pos (by omega)]
      · simp only [Bool.true_eq_false, false_or, false_and, if_true, if_false]
        rw [if_pos this, hv']
  · intro hc
    rcases hc with hc | ⟨hc, hc2⟩ | hc
    · subst hc; simp at hl
    · rcases Nat.lt_or_ge l.length 2 with u | u
      · rcases hc2 with e | e
        · match l, hl, u, hc with
          | [c], _, _, hc => exact hz ⟨e, by simpa using hc⟩
        · omega
      · exact h.head u hc
    · rw [hd] at hc; cases hc
end Go.Proofs.YtflalomgifeaaaaDoor
