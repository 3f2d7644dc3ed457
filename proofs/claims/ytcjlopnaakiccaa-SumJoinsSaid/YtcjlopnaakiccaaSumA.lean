/-
  Contracts of package sum's checks of strings, and of the document's own answers: both return the plain values.
-/
import Derived.Test.YtcjlopnaakiccaaChecked
import Derived.Test.YtcjlopnaakiccaaBase
import Derived.Test.YtcjlopnaakiccaaArith
import Derived.Test.YtcjlopnaakiccaaSumMath
import Derived.WalkLawsBesides
import Derived.ProofKit
import Derived.Lib.Hide
import Derived.Lib.Walk
import Derived.Laws.BitsAllLaws
import Derived.Laws.BitsLemmas
namespace Go.Proofs.Ytcjlopnaakiccaa
open Go.RowKit
theorem sum_at (D : ByteArray) (k : Nat) (h : k < D.size) : D.data.toList[k]? = some D[k] := by
  rw [Array.getElem?_toList]; exact Array.getElem?_eq_getElem h
theorem sum_byte (c : UInt8) : (c.toNat : Int) < 256 := by have := c.toNat_lt; omega
theorem take_next {s : ByteArray} {k : Nat} (h : k < s.size) : s.data.toList.take (k + 1) = s.data.toList.take k ++ [s[k]] := by
  rw [List.take_add_one, sum_at s k h]; rfl
theorem take_full {s : ByteArray} {k : Nat} (h : ¬ k < s.size) : s.data.toList.take k = s.data.toList := List.take_of_length_le (by simp; omega)
theorem ofInt_i64 (a : Nat) (ha : a < 9223372036854775808) : (BitVec.ofInt 64 (a : Int)).toNat = a := by
  rw [BitVec.ofInt_natCast, BitVec.toNat_ofNat]; exact Nat.mod_eq_of_lt (by omega)
theorem i64_xor_nat (a b : Nat) (ha : a < 9223372036854775808) (hb : b < 9223372036854775808) : bits .xor .i64 (a : Int) (b : Int) = ((a ^^^ b : Nat) : Int) := by
  have hx : a ^^^ b < 2 ^ 63 := Nat.xor_lt_two_pow (by omega) (by omega)
  show IntKind.i64.wrap ((BitVec.ofInt 64 (a : Int) ^^^ BitVec.ofInt 64 (b : Int)).toNat : Int) = _
  rw [BitVec.toNat_xor, ofInt_i64 a ha, ofInt_i64 b hb, IntKind.wrap_i64]
  omega
/-- additive/sum.Xor -/
theorem sum_Xor (s : ByteArray) (hs : (s.size : Int) ≤ 9223372036854775807) (w : World) :
    Calls Try.prog 9 #[.string s] w fun e w' => e = .returned (.int .i64 (xorN s.data.toList : Int)) ∧ w = w' := by
  go_enter Try.func9, Try.ntmps9
  go_wp2_with fail
  go_loop [3, 7] (fun u i => ∃ (k : Nat) (v : Int), k ≤ s.size ∧ i = .int .i64 k ∧ u = .int .u8 v ∧ v = (xorN (s.data.toList.take k) : Int)) (fun _ i => s.size - (intOf i).toNat)
  case atStart => exact ⟨0, 0, by omega, rfl, rfl, rfl⟩
  case round =>
    obtain ⟨k, v, hk, rfl, rfl, hv⟩ := hrel
    have nb := xorN_lt (s.data.toList.take k)
    have v0 : 0 ≤ v ∧ v < 256 := by omega
    by_cases hlt : k < s.size
    · have x0 : 0 ≤ (s[k].toNat : Int) := by omega
      have x1 := sum_byte s[k]
      have kl : (k : Int) < s.size := by omega
      have N : Hid (bits .xor .u8 v (s[k].toNat : Int) = (xorN (s.data.toList.take (k + 1)) : Int)) := Lib.hid (by
        rw [take_next hlt, xorN_snoc, hv, u8_xor_nat _ _ nb (by have := s[k].toNat_lt; omega)])
      clear hv nb
      go_wp2_with fail
      go_round
      case rel => exact ⟨k + 1, _, by omega, by go_num, rfl, N.out⟩
      case measure => simp [intOf]; omega
    · have N : Hid (v = (xorN s.data.toList : Int)) := Lib.hid (by rw [hv, take_full hlt])
      clear hv nb
      go_wp2_with fail
      go_ret
      exact ⟨ret1 N.out, rfl⟩
/-- additiveref03.Xor -/
theorem ref_Xor (s : ByteArray) (hs : (s.size : Int) ≤ 9223372036854775807) (w : World) :
    Calls Try.prog 10 #[.string s] w fun e w' => e = .returned (.int .i64 (xorN s.data.toList : Int)) ∧ w = w' := by
  go_enter Try.func10, Try.ntmps10
  go_wp2_with fail
  go_loop [3, 4] (fun u i => ∃ (k : Nat) (v : Int), k ≤ s.size ∧ i = .int .i64 k ∧ u = .int .i64 v ∧ v = (xorN (s.data.toList.take k) : Int)) (fun _ i => s.size - (intOf i).toNat)
  case atStart => exact ⟨0, 0, by omega, rfl, rfl, rfl⟩
  case round =>
    obtain ⟨k, v, hk, rfl, rfl, hv⟩ := hrel
    have nb := xorN_lt (s.data.toList.take k)
    have v0 : 0 ≤ v ∧ v < 256 := by omega
    by_cases hlt : k < s.size
    · have x0 : 0 ≤ (s[k].toNat : Int) := by omega
      have x1 := sum_byte s[k]
      have kl : (k : Int) < s.size := by omega
      have N : Hid (bits .xor .i64 v (s[k].toNat : Int) = (xorN (s.data.toList.take (k + 1)) : Int)) := Lib.hid (by
        rw [take_next hlt, xorN_snoc, hv, i64_xor_nat _ _ (by omega) (by have := s[k].toNat_lt; omega)])
      clear hv nb
      go_wp2_with fail
      go_round
      case rel => exact ⟨k + 1, _, by omega, by go_num, rfl, N.out⟩
      case measure => simp [intOf]; omega
    · have N : Hid (v = (xorN s.data.toList : Int)) := Lib.hid (by rw [hv, take_full hlt])
      clear hv nb
      go_wp2_with fail
      go_ret
      exact ⟨ret1 N.out, rfl⟩
set_option maxHeartbeats 1000000 in
/-- additive/sum.CRC16 -/
theorem sum_CRC16 (s : ByteArray) (hs : (s.size : Int) ≤ 9223372036854775807) (w : World) :
    Calls Try.prog 11 #[.string s] w fun e w' => e = .returned (.int .i64 (crcN s.data.toList : Int)) ∧ w = w' := by
  go_enter Try.func11, Try.ntmps11
  go_wp2_with fail
  go_loop [3, 8] (fun u i => ∃ (k : Nat) (v : Int), k ≤ s.size ∧ i = .int .i64 k ∧ u = .int .u16 v ∧ v = (crcN (s.data.toList.take k) : Int)) (fun _ i => s.size - (intOf i).toNat)
  case atStart => exact ⟨0, 65535, by omega, rfl, rfl, rfl⟩
  case round =>
    obtain ⟨k, v, hk, rfl, rfl, hv⟩ := hrel
    have nb := crcN_lt (s.data.toList.take k)
    have v0 : 0 ≤ v ∧ v < 65536 := by omega
    by_cases hlt : k < s.size
    · have x0 : 0 ≤ (s[k].toNat : Int) := by omega
      have x1 := sum_byte s[k]
      have kl : (k : Int) < s.size := by omega
      have hX : bits .xor .u16 v ((s[k].toNat : Int) * 256) = ((crcN (s.data.toList.take k) ^^^ (s[k].toNat * 256) : Nat) : Int) := by
        have := s[k].toNat_lt
        rw [hv, show (s[k].toNat : Int) * 256 = ((s[k].toNat * 256 : Nat) : Int) by omega, u16_xor_nat _ _ nb (by omega)]
      have hXl := in16 nb s[k]
      obtain ⟨X, hXe⟩ : ∃ X, crcN (s.data.toList.take k) ^^^ (s[k].toNat * 256) = X := ⟨_, rfl⟩
      have N : Hid (((bits16 8 X : Nat) : Int) = (crcN (s.data.toList.take (k + 1)) : Int)) := Lib.hid (by
        rw [take_next hlt, crcN_snoc, ← hXe]; rfl)
      rw [hXe] at hX hXl
      have HX := Lib.hid hX
      clear hv nb hXe hX
      go_wp2_with fail
      go_loop [3, 18] (fun u i => ∃ (j : Nat) (r : Int), j ≤ 8 ∧ i = .int .i64 j ∧ u = .int .u16 r ∧ r = (bits16 j X : Int)) (fun _ i => 8 - (intOf i).toNat)
      case atStart => exact ⟨0, _, by omega, rfl, rfl, HX.out⟩
      case round =>
        obtain ⟨j, r, hj, rfl, rfl, hr⟩ := hrel
        have rb := bits16_lt (k := j) hXl
        have r0 : 0 ≤ r ∧ r < 65536 := by omega
        by_cases hj8 : j < 8
        · have jl : (j : Int) < 8 := by omega
          by_cases h : 32768 ≤ bits16 j X
          · have d : (r / 32768 == 1) = true := beq_t (by omega)
            have M : Hid (bits .xor .u16 (r * 2 % 65536) 4129 = (bits16 (j + 1) X : Int)) := Lib.hid (by
              rw [hr, show ((bits16 j X : Nat) : Int) * 2 % 65536 = (((bits16 j X - 32768) * 2 : Nat) : Int) by omega, show (4129 : Int) = ((4129 : Nat) : Int) from rfl, u16_xor_nat _ _ (by omega) (by omega)]
              show _ = ((bit16 (bits16 j X) : Nat) : Int)
              rw [bit16, if_pos h])
            clear hr rb h
            go_wp2_with fail
            go_round
            case rel => exact ⟨j + 1, _, by omega, by go_num, rfl, M.out⟩
            case measure => simp [intOf]; omega
          · have d : (r / 32768 == 1) = false := beq_f (by omega)
            have M : Hid (r * 2 = (bits16 (j + 1) X : Int)) := Lib.hid (by
              rw [hr]
              show _ = ((bit16 (bits16 j X) : Nat) : Int)
              rw [bit16, if_neg h]; omega)
            have r1 : r < 32768 := by omega
            clear hr rb h
            go_wp2_with fail
            go_round
            case rel => exact ⟨j + 1, _, by omega, by go_num, rfl, M.out⟩
            case measure => simp [intOf]; omega
        · obtain rfl : j = 8 := by omega
          have M : Hid (r = (crcN (s.data.toList.take (k + 1)) : Int)) := Lib.hid (by rw [hr]; exact N.out)
          clear hr rb
          go_wp2_with fail
          go_round
          case rel => exact ⟨k + 1, _, by omega, by go_num, rfl, M.out⟩
          case measure => simp [intOf]; omega
    · have N : Hid (v = (crcN s.data.toList : Int)) := Lib.hid (by rw [hv, take_full hlt])
      clear hv nb
      go_wp2_with fail
      go_ret
      exact ⟨ret1 N.out, rfl⟩
end Go.Proofs.Ytcjlopnaakiccaa

