/-
  What is encoded is read back, and what is read is the encoding of its result: plainly, of the answers' words.
-/
import Derived.Test.YtpckhcnlffddcaaLawX
namespace Go.Proofs.Ytpckhcnlffddcaa
theorem taken_mid (f l b : List UInt8) (k : Int) (h1 : 1 ≤ k) (h8 : k ≤ 8) (hl : (l.length : Int) = k) : takenS (f ++ l ++ b) f.length k = (l, 0) := by
  unfold takenS
  rw [List.length_append, List.length_append, if_neg (by omega), if_neg (by omega), Int.toNat_natCast, List.append_assoc, List.drop_left, List.take_left' (by omega)]
theorem rt_uint (f b l : List UInt8) (n k : Int) (n1 : n ≤ 9223372036854775807) (h : uintS n k = (l, 0)) : takeU (f ++ l ++ b) f.length k = (n, (f.length : Int) + l.length, 0) ∧ (l.length : Int) = k ∧ 1 ≤ k ∧ k ≤ 8 := by
  rcases uint_cases n k with ⟨e, he, h2⟩ | ⟨n0, k1, k8, hn, h2⟩
  · rw [h] at h2; injection h2 with _ h3; exact absurd h3.symm he
  rw [h2] at h
  obtain rfl : enc n.toNat k.toNat = l := by injection h
  have hl : ((enc n.toNat k.toNat).length : Int) = k := by rw [enc_len]; omega
  refine ⟨?_, hl, k1, k8⟩
  have hp : ((256 ^ k.toNat : Nat) : Int) = 256 ^ k.toNat := by simp
  have hm : n.toNat % 256 ^ k.toNat = n.toNat := Nat.mod_eq_of_lt (by omega)
  unfold takeU
  rw [taken_mid f _ b k k1 k8 hl, if_neg (by simp)]
  dsimp only
  rw [num_enc, hm, if_neg (by omega)]
  congr 1
  · omega
  · rw [hl]
theorem rt_int (f b l : List UInt8) (n k : Int) (n0 : -9223372036854775808 ≤ n) (n1 : n ≤ 9223372036854775807) (h : intS n k = (l, 0)) : takeI (f ++ l ++ b) f.length k = (n, (f.length : Int) + l.length, 0) ∧ (l.length : Int) = k ∧ 1 ≤ k ∧ k ≤ 8 := by
  by_cases hk : 1 ≤ k ∧ k ≤ 8
  case neg => rw [intS_arg hk] at h; injection h with _ h3; cases h3
  by_cases hr : n < -(256 ^ k.toNat / 2) ∨ 256 ^ k.toNat / 2 ≤ n
  · rw [intS_over hk hr] at h; injection h with _ h3; cases h3
  rw [intS_ok hk hr] at h
  obtain ⟨k1, k8⟩ := hk
  obtain rfl : enc (n % 18446744073709551616).toNat k.toNat = l := by injection h
  have hl : ((enc (n % 18446744073709551616).toNat k.toNat).length : Int) = k := by rw [enc_len]; omega
  refine ⟨?_, hl, k1, k8⟩
  unfold takeI
  rw [taken_mid f _ b k k1 k8 hl, if_neg (by simp)]
  dsimp only
  rw [num_enc]
  have key : (if 256 ^ k.toNat ≤ 2 * ((n % 18446744073709551616).toNat % 256 ^ k.toNat) then (((n % 18446744073709551616).toNat % 256 ^ k.toNat : Nat) : Int) - 256 ^ k.toNat else (((n % 18446744073709551616).toNat % 256 ^ k.toNat : Nat) : Int)) = n := by
    rcases (show k = 1 ∨ k = 2 ∨ k = 3 ∨ k = 4 ∨ k = 5 ∨ k = 6 ∨ k = 7 ∨ k = 8 by omega) with rfl | rfl | rfl | rfl | rfl | rfl | rfl | rfl
    all_goals
      simp only [show (1 : Int).toNat = 1 from rfl, show (2 : Int).toNat = 2 from rfl, show (3 : Int).toNat = 3 from rfl, show (4 : Int).toNat = 4 from rfl, show (5 : Int).toNat = 5 from rfl, show (6 : Int).toNat = 6 from rfl, show (7 : Int).toNat = 7 from rfl, show (8 : Int).toNat = 8 from rfl, Nat.reducePow, Int.reducePow] at hr ⊢
      split <;> omega
  rw [key, hl]
theorem rt_text (f b l t : List UInt8) (hl : l.length ≤ 300) (h : textS l = (t, 0)) : takeT (f ++ t ++ b) f.length l.length = (l, (f.length : Int) + t.length, 0) ∧ t.length = l.length + 2 := by
  unfold textS at h
  rw [if_neg (by omega)] at h
  obtain rfl : enc l.length 2 ++ l = t := by injection h
  have tl : (enc l.length 2 ++ l).length = l.length + 2 := by rw [List.length_append, enc_len]; omega
  refine ⟨?_, tl⟩
  have d1 : (f ++ (enc l.length 2 ++ l) ++ b).drop f.length = enc l.length 2 ++ (l ++ b) := by rw [List.append_assoc, List.drop_left, List.append_assoc]
  have d2 : ((f ++ (enc l.length 2 ++ l) ++ b).drop f.length).take 2 = enc l.length 2 := by rw [d1]; exact List.take_left' (enc_len _ _)
  have d3 : (f ++ (enc l.length 2 ++ l) ++ b).drop (f.length + 2) = l ++ b := by rw [← List.drop_drop, d1]; exact List.drop_left' (enc_len _ _)
  have nm : num (enc l.length 2) = l.length := by rw [num_enc]; exact Nat.mod_eq_of_lt (by omega)
  have len : (f ++ (enc l.length 2 ++ l) ++ b).length = f.length + (l.length + 2) + b.length := by rw [List.length_append, List.length_append, tl]
  unfold takeT
  rw [Int.toNat_natCast, d2, nm, len, if_neg (by omega), if_neg (by omega), if_neg (by omega), if_neg (by omega), d3, List.take_left, tl]
  congr 2
  omega
theorem take_front (b : List UInt8) (k j : Int) (l : List UInt8) (h : takenS b 0 k = (l, 0)) (hj : j = 0 + k) : l = b.take j.toNat ∧ 0 ≤ j ∧ j ≤ b.length ∧ 1 ≤ k ∧ k ≤ 8 ∧ (l.length : Int) = k := by
  unfold takenS at h
  by_cases h1 : (0 : Int) < 0 ∨ (b.length : Int) < 0 ∨ ¬ (1 ≤ k ∧ k ≤ 8)
  · rw [if_pos h1] at h; injection h with _ h3; cases h3
  rw [if_neg h1] at h
  by_cases h2 : (b.length : Int) - 0 < k
  · rw [if_pos h2] at h; injection h with _ h3; cases h3
  rw [if_neg h2] at h
  obtain rfl : (b.drop (0 : Int).toNat).take k.toNat = l := by injection h
  have e : j.toNat = k.toNat := by omega
  rw [e]
  refine ⟨by simp, by omega, by omega, by omega, by omega, ?_⟩
  simp; omega
theorem rv_uint (b : List UInt8) (k n j : Int) (h : takeU b 0 k = (n, j, 0)) : uintS n k = (b.take j.toNat, 0) ∧ 0 ≤ j ∧ j ≤ b.length ∧ 0 ≤ n ∧ n ≤ 9223372036854775807 := by
  unfold takeU at h
  rcases taken_cases b 0 k with ⟨e, he, ht⟩ | ⟨l, ht, hl, k1, k8, _, _⟩
  · rw [ht, if_pos he] at h
    simp at h; exact absurd h.2.2 he
  rw [ht, if_neg (by simp)] at h
  dsimp only at h
  by_cases hb : 9223372036854775808 ≤ num l
  · rw [if_pos hb] at h; simp at h
  rw [if_neg hb] at h
  simp only [Prod.mk.injEq, and_true] at h
  obtain ⟨rfl, rfl⟩ := h
  obtain ⟨e1, j0, j1, _⟩ := take_front b k _ l ht rfl
  refine ⟨?_, j0, j1, by omega, by omega⟩
  have hlt := num_lt l
  rw [show l.length = k.toNat by omega] at hlt
  have hp : ((256 ^ k.toNat : Nat) : Int) = 256 ^ k.toNat := by simp
  rw [uintS_ok ⟨k1, k8⟩ (by omega), Int.toNat_natCast, ← e1]
  have := enc_num l
  rw [show l.length = k.toNat by omega] at this
  rw [this]
theorem rv_int (b : List UInt8) (k n j : Int) (h : takeI b 0 k = (n, j, 0)) : intS n k = (b.take j.toNat, 0) ∧ 0 ≤ j ∧ j ≤ b.length ∧ -9223372036854775808 ≤ n ∧ n ≤ 9223372036854775807 := by
  unfold takeI at h
  rcases taken_cases b 0 k with ⟨e, he, ht⟩ | ⟨l, ht, hl, k1, k8, _, _⟩
  · rw [ht, if_pos he] at h
    simp at h; exact absurd h.2.2 he
  rw [ht, if_neg (by simp)] at h
  dsimp only at h
  simp only [Prod.mk.injEq, and_true] at h
  obtain ⟨hn, rfl⟩ := h
  obtain ⟨e1, j0, j1, _⟩ := take_front b k _ l ht rfl
  have hlt := num_lt l
  have en := enc_num l
  rw [show l.length = k.toNat by omega] at hlt en
  generalize hv : num l = v at *
  have key : ¬ (n < -(256 ^ k.toNat / 2) ∨ 256 ^ k.toNat / 2 ≤ n) ∧ (n % 18446744073709551616).toNat % 256 ^ k.toNat = v ∧ -9223372036854775808 ≤ n ∧ n ≤ 9223372036854775807 := by
    rcases (show k = 1 ∨ k = 2 ∨ k = 3 ∨ k = 4 ∨ k = 5 ∨ k = 6 ∨ k = 7 ∨ k = 8 by omega) with rfl | rfl | rfl | rfl | rfl | rfl | rfl | rfl
    all_goals
      simp only [show (1 : Int).toNat = 1 from rfl, show (2 : Int).toNat = 2 from rfl, show (3 : Int).toNat = 3 from rfl, show (4 : Int).toNat = 4 from rfl, show (5 : Int).toNat = 5 from rfl, show (6 : Int).toNat = 6 from rfl, show (7 : Int).toNat = 7 from rfl, show (8 : Int).toNat = 8 from rfl, Nat.reducePow, Int.reducePow] at hlt hn ⊢
      split at hn <;> omega
  obtain ⟨r, md, n0, n1⟩ := key
  refine ⟨?_, j0, j1, n0, n1⟩
  rw [intS_ok ⟨k1, k8⟩ r, ← enc_mod, md, en, ← e1]
end Go.Proofs.Ytpckhcnlffddcaa

