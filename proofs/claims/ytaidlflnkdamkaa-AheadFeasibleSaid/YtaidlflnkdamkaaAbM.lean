/-
  Layer 44: the greatest squares below bounds, neighbors within a reach.
-/
import Derived.Test.YtaidlflnkdamkaaAbB
import Derived.Test.YtaidlflnkdamkaaPl
namespace Go.Proofs.Ytaidlflnkdamkaa
open Go
section
variable (n : Nat) (mm r : Nat → Int)
def bk : Nat → Int
  | 0 => mm n
  | k + 1 => min (mm (n - (k + 1))) (bk k + r (n - (k + 1)))
def bB (i : Nat) : Int := bk n mm r (n - i)
def sS : Nat → Int
  | 0 => bB n mm r 0
  | i + 1 => min (bB n mm r (i + 1)) (sS i + r i)
theorem bB_n : bB n mm r n = mm n := by simp [bB, bk]
theorem bB_i {i : Nat} (h : i < n) : bB n mm r i = min (mm i) (bB n mm r (i + 1) + r i) := by
  unfold bB
  have e : n - i = (n - (i + 1)) + 1 := by omega
  rw [e]
  simp only [bk]
  rw [show n - (n - (i + 1) + 1) = i by omega]
theorem bB_m {i : Nat} (h : i ≤ n) : bB n mm r i ≤ mm i := by
  by_cases e : i = n
  · subst e; rw [bB_n]; exact Int.le_refl _
  · rw [bB_i n mm r (by omega)]; omega
theorem sS_b (i : Nat) : sS n mm r i ≤ bB n mm r i := by
  cases i <;> simp only [sS] <;> omega
theorem sS_m {i : Nat} (h : i ≤ n) : sS n mm r i ≤ mm i := Int.le_trans (sS_b n mm r i) (bB_m n mm r h)
theorem sS_up (i : Nat) : sS n mm r (i + 1) ≤ sS n mm r i + r i := by simp only [sS]; omega
theorem sS_dn {i : Nat} (h : i < n) (hr : 0 ≤ r i) : sS n mm r i ≤ sS n mm r (i + 1) + r i := by
  have h1 := sS_b n mm r i
  have h2 := bB_i n mm r h
  simp only [sS]
  omega
theorem sS_great {t : Nat → Int} (h0 : ∀ i, i ≤ n → t i ≤ mm i) (h1 : ∀ i, i < n → t i ≤ t (i + 1) + r i) (h2 : ∀ i, i < n → t (i + 1) ≤ t i + r i) : ∀ i, i ≤ n → t i ≤ sS n mm r i := by
  have hb : ∀ k, k ≤ n → t (n - k) ≤ bB n mm r (n - k) := by
    intro k
    induction k with
    | zero => intro _; rw [Nat.sub_zero, bB_n]; exact h0 n (Nat.le_refl _)
    | succ k ih =>
      intro hk
      have a := ih (by omega)
      rw [bB_i n mm r (by omega)]
      have b := h1 (n - (k + 1)) (by omega)
      have c := h0 (n - (k + 1)) (by omega)
      rw [show n - (k + 1) + 1 = n - k by omega] at *
      omega
  intro i
  induction i with
  | zero => intro _; simpa [sS] using hb n (Nat.le_refl _)
  | succ i ih =>
    intro hi
    have a := ih (by omega)
    have b := h2 i (by omega)
    have c := hb (n - (i + 1)) (by omega)
    rw [show n - (n - (i + 1)) = i + 1 by omega] at c
    simp only [sS]
    omega
theorem sS_mono {mm' : Nat → Int} (h : ∀ i, i ≤ n → mm' i ≤ mm i) (hr : ∀ i, i < n → 0 ≤ r i) : ∀ i, i ≤ n → sS n mm' r i ≤ sS n mm r i :=
  sS_great n mm r (fun i hi => Int.le_trans (sS_m n mm' r hi) (h i hi)) (fun i hi => sS_dn n mm' r hi (hr i hi)) (fun i _ => sS_up n mm' r i)
theorem bB_low {lo : Int} (h : ∀ i, i ≤ n → lo ≤ mm i) (hr : ∀ i, i < n → 0 ≤ r i) {i : Nat} (hi : i ≤ n) : lo ≤ bB n mm r i := by
  have : ∀ k, k ≤ n → lo ≤ bB n mm r (n - k) := by
    intro k
    induction k with
    | zero => intro _; rw [Nat.sub_zero, bB_n]; exact h n (Nat.le_refl _)
    | succ k ih =>
      intro hk
      have a := ih (by omega)
      rw [bB_i n mm r (by omega), show n - (k + 1) + 1 = n - k by omega]
      have b := h (n - (k + 1)) (by omega)
      have c := hr (n - (k + 1)) (by omega)
      omega
  have := this (n - i) (by omega)
  rwa [show n - (n - i) = i by omega] at this
theorem sS_low {lo : Int} (h : ∀ i, i ≤ n → lo ≤ mm i) (hr : ∀ i, i < n → 0 ≤ r i) : ∀ {i : Nat}, i ≤ n → lo ≤ sS n mm r i
  | 0, hi => by simp only [sS]; exact bB_low n mm r h hr hi
  | i + 1, hi => by
    have a := sS_low h hr (i := i) (by omega)
    have b := bB_low n mm r h hr hi
    have c := hr i (by omega)
    simp only [sS]; omega
end
end Go.Proofs.Ytaidlflnkdamkaa
