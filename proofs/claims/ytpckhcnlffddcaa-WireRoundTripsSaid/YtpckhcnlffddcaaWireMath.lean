/-
  Fixed-width encodings, plainly: the bytes of a number, the number of bytes, and that each is the other's inverse. No program is named here.
-/
import Derived.WalkKit
namespace Go.Proofs.Ytpckhcnlffddcaa
/-- The lowest bytes of u, so many, the most significant one first. -/
def enc (u : Nat) : Nat → List UInt8
  | 0 => []
  | w + 1 => enc (u / 256) w ++ [UInt8.ofNat (u % 256)]
/-- The number that bytes encode. -/
def num (l : List UInt8) : Nat := l.foldl (fun a c => a * 256 + c.toNat) 0
theorem num_nil : num [] = 0 := rfl
theorem num_snoc (l : List UInt8) (c : UInt8) : num (l ++ [c]) = num l * 256 + c.toNat := by simp [num, List.foldl_append]
theorem enc_len (u w : Nat) : (enc u w).length = w := by
  induction w generalizing u with
  | zero => rfl
  | succ w ih => simp [enc, ih]
theorem byte_toNat (k : Nat) : (UInt8.ofNat (k % 256)).toNat = k % 256 := by
  rw [UInt8.toNat_ofNat']; omega
theorem num_enc (u w : Nat) : num (enc u w) = u % 256 ^ w := by
  induction w generalizing u with
  | zero => simp [enc, num, Nat.mod_one]
  | succ w ih =>
    rw [enc, num_snoc, ih, byte_toNat, Nat.pow_succ, Nat.mul_comm (256 ^ w), Nat.mod_mul, Nat.mul_comm 256]
    omega
theorem num_lt (l : List UInt8) : num l < 256 ^ l.length := by
  generalize h : l.length = n
  induction n generalizing l with
  | zero => rw [List.eq_nil_of_length_eq_zero h]; decide
  | succ n ih =>
    obtain ⟨r, c, rfl⟩ : ∃ r c, l = r ++ [c] := ⟨l.dropLast, l.getLast (fun e => by subst e; simp at h), (List.dropLast_concat_getLast _).symm⟩
    have := ih r (by simpa using h)
    have := c.toNat_lt
    rw [num_snoc, Nat.pow_succ]
    omega
theorem enc_num (l : List UInt8) : enc (num l) l.length = l := by
  generalize h : l.length = n
  induction n generalizing l with
  | zero => rw [List.eq_nil_of_length_eq_zero h]; rfl
  | succ n ih =>
    obtain ⟨r, c, rfl⟩ : ∃ r c, l = r ++ [c] := ⟨l.dropLast, l.getLast (fun e => by subst e; simp at h), (List.dropLast_concat_getLast _).symm⟩
    have e := ih r (by simpa using h)
    have := c.toNat_lt
    rw [num_snoc, enc, show (num r * 256 + c.toNat) / 256 = num r by omega, e, show (num r * 256 + c.toNat) % 256 = c.toNat by omega, UInt8.ofNat_toNat]
theorem enc_mod (u w : Nat) : enc (u % 256 ^ w) w = enc u w := by
  have h := enc_num (enc u w)
  rw [enc_len, num_enc] at h
  exact h
end Go.Proofs.Ytpckhcnlffddcaa
