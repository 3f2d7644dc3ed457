/-
  Contracts of package sum's CRC32, Hash, and of the document's own answers CRC16, CRC32, Hash.
-/
import Derived.Test.YtcjlopnaakiccaaSumA
namespace Go.Proofs.Ytcjlopnaakiccaa
open Go.RowKit
/-- additiveref03.bit -/
theorem ref_bit (n : Nat) (h : n < 65536) (w : World) : Calls Try.prog 25 #[.int .i64 (n : Int)] w fun e w' => e = .returned (.int .i64 (bit16 n : Int)) ∧ w = w' := by
  by_cases c : 32768 ≤ n
  · have d : decide ((32768 : Int) ≤ n) = true := dle_t (by omega)
    have M : bits .xor .i64 (((n : Int) - 32768) * 2) 4129 = (bit16 n : Int) := by
      rw [show ((n : Int) - 32768) * 2 = (((n - 32768) * 2 : Nat) : Int) by omega, show (4129 : Int) = ((4129 : Nat) : Int) from rfl, i64_xor_nat _ _ (by omega) (by omega), bit16, if_pos c]
    have HM := Lib.hid M
    have c' : (32768 : Int) ≤ n := by omega
    have h' : (n : Int) < 65536 := by omega
    clear M c h
    go_enter Try.func25, Try.ntmps25
    go_wp2_with fail
    go_ret
    exact ⟨ret1 HM.out, rfl⟩
  · have d : decide ((32768 : Int) ≤ n) = false := dle_f (by omega)
    have HM : Hid ((n : Int) * 2 = (bit16 n : Int)) := Lib.hid (by rw [bit16, if_neg c]; omega)
    have c' : (n : Int) < 32768 := by omega
    clear c h
    go_enter Try.func25, Try.ntmps25
    go_wp2_with fail
    go_ret
    exact ⟨ret1 HM.out, rfl⟩
set_option maxHeartbeats 1000000 in
/-- additiveref03.CRC16 -/
theorem ref_CRC16 (s : ByteArray) (hs : (s.size : Int) ≤ 9223372036854775807) (w : World) :
    Calls Try.prog 12 #[.string s] w fun e w' => e = .returned (.int .i64 (crcN s.data.toList : Int)) ∧ w = w' := by
  go_enter Try.func12, Try.ntmps12
  go_wp2_with fail
  go_loop [3, 4] (fun u i => ∃ (k : Nat) (v : Int), k ≤ s.size ∧ i = .int .i64 k ∧ u = .int .i64 v ∧ v = (crcN (s.data.toList.take k) : Int)) (fun _ i => s.size - (intOf i).toNat)
  case atStart => exact ⟨0, 65535, by omega, rfl, rfl, rfl⟩
  case round =>
    obtain ⟨k, v, hk, rfl, rfl, hv⟩ := hrel
    have nb := crcN_lt (s.data.toList.take k)
    have v0 : 0 ≤ v ∧ v < 65536 := by omega
    by_cases hlt : k < s.size
    · have x0 : 0 ≤ (s[k].toNat : Int) := by omega
      have x1 := sum_byte s[k]
      have kl : (k : Int) < s.size := by omega
      have hX : bits .xor .i64 v ((s[k].toNat : Int) * 256) = ((crcN (s.data.toList.take k) ^^^ (s[k].toNat * 256) : Nat) : Int) := by
        have := s[k].toNat_lt
        rw [hv, show (s[k].toNat : Int) * 256 = ((s[k].toNat * 256 : Nat) : Int) by omega, i64_xor_nat _ _ (by omega) (by omega)]
      have hXl := in16 nb s[k]
      obtain ⟨X, hXe⟩ : ∃ X, crcN (s.data.toList.take k) ^^^ (s[k].toNat * 256) = X := ⟨_, rfl⟩
      have N : Hid (((bits16 8 X : Nat) : Int) = (crcN (s.data.toList.take (k + 1)) : Int)) := Lib.hid (by
        rw [take_next hlt, crcN_snoc, ← hXe]; rfl)
      rw [hXe] at hX hXl
      have HX := Lib.hid hX
      clear hv nb hXe hX
      go_wp2_with fail
      go_loop [3, 5] (fun u i => ∃ (j : Nat) (r : Int), j ≤ 8 ∧ i = .int .i64 j ∧ u = .int .i64 r ∧ r = (bits16 j X : Int)) (fun _ i => 8 - (intOf i).toNat)
      case atStart => exact ⟨0, _, by omega, rfl, rfl, HX.out⟩
      case round =>
        obtain ⟨j, r, hj, rfl, rfl, hr⟩ := hrel
        have rb := bits16_lt (k := j) hXl
        by_cases hj8 : j < 8
        · have jl : (j : Int) < 8 := by omega
          have c := Lib.hid fun w => ref_bit (bits16 j X) rb w
          have M : Hid (((bit16 (bits16 j X) : Nat) : Int) = (bits16 (j + 1) X : Int)) := Lib.hid rfl
          subst hr
          clear rb
          generalize bits16 j X = y at *
          go_wp2_with fail
          refine (c.out _).mono ?_; rintro e w' ⟨rfl, rfl⟩
          go_wp2_with fail
          go_round
          case rel => exact ⟨j + 1, _, by omega, by go_num, rfl, M.out⟩
          case measure => simp [intOf]; omega
        · obtain rfl : j = 8 := by omega
          have M : Hid (r = (crcN (s.data.toList.take (k + 1)) : Int)) := Lib.hid (by rw [hr]; exact N.out)
          clear hr rb
          go_wp2_with fail
          go_round
          case rel => exact ⟨k + 1, _, by omega, by go_num, rfl, M.out⟩
          case measure => simp [intOf]; omega
    · have N : Hid (v = (crcN s.data.toList : Int)) := Lib.hid (by rw [hv, take_full hlt])
      clear hv nb
      go_wp2_with fail
      go_ret
      exact ⟨ret1 N.out, rfl⟩
theorem ones32 (n : Nat) (h : n < 4294967296) : 4294967295 ^^^ n = 4294967295 - n := by
  apply Nat.eq_of_testBit_eq
  intro i
  rw [Nat.testBit_xor, show (4294967295 : Nat) = 2 ^ 32 - 1 from rfl, Nat.testBit_two_pow_sub_one, show 2 ^ 32 - 1 - n = 2 ^ 32 - (n + 1) by omega, Nat.testBit_two_pow_sub_succ (by exact h)]
  by_cases hi : i < 32
  · simp [hi]
  · rw [Nat.testBit_lt_two_pow (x := n) (i := i) (Nat.lt_of_lt_of_le (m := 2 ^ 32) h (Nat.pow_le_pow_right (by omega) (by omega)))]
    simp [hi]
theorem not32 (v : Int) (h : 0 ≤ v ∧ v < 4294967296) : bits .xor .u32 IntKind.u32.max v = 4294967295 - v := by
  obtain ⟨n, rfl⟩ := Int.eq_ofNat_of_zero_le h.1
  rw [show IntKind.u32.max = ((4294967295 : Nat) : Int) by decide, u32_xor_nat 4294967295 n (by omega) (by omega), ones32 n (by omega)]
  omega
set_option maxHeartbeats 1000000 in
/-- additive/sum.CRC32 -/
theorem sum_CRC32 (s : ByteArray) (hs : (s.size : Int) ≤ 9223372036854775807) (w : World) :
    Calls Try.prog 13 #[.string s] w fun e w' => e = .returned (.int .u32 (4294967295 - (crc32F s.data.toList : Int))) ∧ w = w' := by
  go_enter Try.func13, Try.ntmps13
  go_wp2_with fail
  go_loop [3, 8] (fun u i => ∃ (k : Nat) (v : Int), k ≤ s.size ∧ i = .int .i64 k ∧ u = .int .u32 v ∧ v = (crc32F (s.data.toList.take k) : Int)) (fun _ i => s.size - (intOf i).toNat)
  case atStart => exact ⟨0, 4294967295, by omega, rfl, rfl, rfl⟩
  case round =>
    obtain ⟨k, v, hk, rfl, rfl, hv⟩ := hrel
    have nb := crc32F_lt (s.data.toList.take k)
    have v0 : 0 ≤ v ∧ v < 4294967296 := by omega
    by_cases hlt : k < s.size
    · have x0 : 0 ≤ (s[k].toNat : Int) := by omega
      have x1 := sum_byte s[k]
      have kl : (k : Int) < s.size := by omega
      have hX : bits .xor .u32 v (s[k].toNat : Int) = ((crc32F (s.data.toList.take k) ^^^ s[k].toNat : Nat) : Int) := by
        have := s[k].toNat_lt
        rw [hv, u32_xor_nat _ _ nb (by omega)]
      have hXl := in32 nb s[k]
      obtain ⟨X, hXe⟩ : ∃ X, crc32F (s.data.toList.take k) ^^^ s[k].toNat = X := ⟨_, rfl⟩
      have N : Hid (((bits32 8 X : Nat) : Int) = (crc32F (s.data.toList.take (k + 1)) : Int)) := Lib.hid (by
        rw [take_next hlt, crc32F_snoc, ← hXe])
      rw [hXe] at hX hXl
      have HX := Lib.hid hX
      clear hv nb hXe hX
      go_wp2_with fail
      go_loop [3, 17] (fun u i => ∃ (j : Nat) (r : Int), j ≤ 8 ∧ i = .int .i64 j ∧ u = .int .u32 r ∧ r = (bits32 j X : Int)) (fun _ i => 8 - (intOf i).toNat)
      case atStart => exact ⟨0, _, by omega, rfl, rfl, HX.out⟩
      case round =>
        obtain ⟨j, r, hj, rfl, rfl, hr⟩ := hrel
        have rb := bits32_lt (k := j) hXl
        have r0 : 0 ≤ r ∧ r < 4294967296 := by omega
        have an : bits .and .u32 r 1 = r % 2 := by
          rw [hr, show (1 : Int) = ((1 : Nat) : Int) from rfl, u32_and_nat _ _ rb (by omega), nat_mask1]; omega
        have AN := Lib.hid an
        by_cases hj8 : j < 8
        · have jl : (j : Int) < 8 := by omega
          by_cases h : bits32 j X % 2 = 1
          · have d : (bits .and .u32 r 1 == 1) = true := beq_t (by rw [an]; omega)
            have M : Hid (bits .xor .u32 (r / 2) 3988292384 = (bits32 (j + 1) X : Int)) := Lib.hid (by
              rw [hr, show ((bits32 j X : Nat) : Int) / 2 = ((bits32 j X / 2 : Nat) : Int) by omega, show (3988292384 : Int) = ((3988292384 : Nat) : Int) from rfl, u32_xor_nat _ _ (by omega) (by omega)]
              show _ = ((bit32 (bits32 j X) : Nat) : Int)
              rw [bit32, if_pos h])
            clear hr rb h an
            go_wp2_with fail
            go_round
            case rel => exact ⟨j + 1, _, by omega, by go_num, rfl, M.out⟩
            case measure => simp [intOf]; omega
          · have d : (bits .and .u32 r 1 == 1) = false := beq_f (by rw [an]; omega)
            have M : Hid (r / 2 = (bits32 (j + 1) X : Int)) := Lib.hid (by
              rw [hr]
              show _ = ((bit32 (bits32 j X) : Nat) : Int)
              rw [bit32, if_neg h]; omega)
            clear hr rb h an
            go_wp2_with fail
            go_round
            case rel => exact ⟨j + 1, _, by omega, by go_num, rfl, M.out⟩
            case measure => simp [intOf]; omega
        · obtain rfl : j = 8 := by omega
          have M : Hid (r = (crc32F (s.data.toList.take (k + 1)) : Int)) := Lib.hid (by rw [hr]; exact N.out)
          clear hr rb an
          go_wp2_with fail
          go_round
          case rel => exact ⟨k + 1, _, by omega, by go_num, rfl, M.out⟩
          case measure => simp [intOf]; omega
    · have N : Hid (v = (crc32F s.data.toList : Int)) := Lib.hid (by rw [hv, take_full hlt])
      have V0 := Lib.hid v0
      clear hv nb
      go_wp2_with fail
      go_ret
      exact ⟨ret1 (by rw [← N.out]; exact not32 v V0.out), rfl⟩
set_option maxHeartbeats 1000000 in
/-- additive/sum.Hash -/
theorem sum_Hash (s : ByteArray) (hs : (s.size : Int) ≤ 9223372036854775807) (w : World) :
    Calls Try.prog 15 #[.string s] w fun e w' => e = .returned (.int .u64 (hashN s.data.toList : Int)) ∧ w = w' := by
  go_enter Try.func15, Try.ntmps15
  go_wp2_with fail
  go_loop [3, 7] (fun u i => ∃ (k : Nat) (v : Int), k ≤ s.size ∧ i = .int .i64 k ∧ u = .int .u64 v ∧ v = (hashN (s.data.toList.take k) : Int)) (fun _ i => s.size - (intOf i).toNat)
  case atStart => exact ⟨0, 14695981039346656037, by omega, rfl, rfl, rfl⟩
  case round =>
    obtain ⟨k, v, hk, rfl, rfl, hv⟩ := hrel
    have nb := hashN_lt (s.data.toList.take k)
    have v0 : 0 ≤ v := by omega
    by_cases hlt : k < s.size
    · have x0 : 0 ≤ (s[k].toNat : Int) := by omega
      have x1 := sum_byte s[k]
      have kl : (k : Int) < s.size := by omega
      have N : Hid (bits .xor .u64 v (s[k].toNat : Int) * 1099511628211 % 18446744073709551616 = (hashN (s.data.toList.take (k + 1)) : Int)) := Lib.hid (by
        have := s[k].toNat_lt
        rw [take_next hlt, hashN_snoc, hv, u64_xor_nat _ _ nb (by omega)]
        unfold hashS
        omega)
      clear hv nb
      go_wp2_with fail
      go_round
      case rel => exact ⟨k + 1, _, by omega, by go_num, rfl, N.out⟩
      case measure => simp [intOf]; omega
    · have N : Hid (v = (hashN s.data.toList : Int)) := Lib.hid (by rw [hv, take_full hlt])
      clear hv nb
      go_wp2_with fail
      go_ret
      exact ⟨ret1 N.out, rfl⟩
set_option maxHeartbeats 1000000 in
/-- additiveref03.CRC32 -/
theorem ref_CRC32 (s : ByteArray) (hs : (s.size : Int) ≤ 9223372036854775807) (w : World) :
    Calls Try.prog 14 #[.string s] w fun e w' => e = .returned (.int .u32 (4294967295 - (crc32F s.data.toList : Int))) ∧ w = w' := by
  go_enter Try.func14, Try.ntmps14
  go_wp2_with fail
  go_loop [3, 4] (fun u i => ∃ (k : Nat) (v : Int), k ≤ s.size ∧ i = .int .i64 k ∧ u = .int .i64 v ∧ v = (crc32F (s.data.toList.take k) : Int)) (fun _ i => s.size - (intOf i).toNat)
  case atStart => exact ⟨0, 4294967295, by omega, rfl, rfl, rfl⟩
  case round =>
    obtain ⟨k, v, hk, rfl, rfl, hv⟩ := hrel
    have nb := crc32F_lt (s.data.toList.take k)
    have v0 : 0 ≤ v ∧ v < 4294967296 := by omega
    by_cases hlt : k < s.size
    · have x0 : 0 ≤ (s[k].toNat : Int) := by omega
      have x1 := sum_byte s[k]
      have kl : (k : Int) < s.size := by omega
      have hX : bits .xor .i64 v (s[k].toNat : Int) = ((crc32F (s.data.toList.take k) ^^^ s[k].toNat : Nat) : Int) := by
        have := s[k].toNat_lt
        rw [hv, i64_xor_nat _ _ (by omega) (by omega)]
      have hXl := in32 nb s[k]
      obtain ⟨X, hXe⟩ : ∃ X, crc32F (s.data.toList.take k) ^^^ s[k].toNat = X := ⟨_, rfl⟩
      have N : Hid (((bits32 8 X : Nat) : Int) = (crc32F (s.data.toList.take (k + 1)) : Int)) := Lib.hid (by
        rw [take_next hlt, crc32F_snoc, ← hXe])
      rw [hXe] at hX hXl
      have HX := Lib.hid hX
      clear hv nb hXe hX
      go_wp2_with fail
      go_loop [3, 5] (fun u i => ∃ (j : Nat) (r : Int), j ≤ 8 ∧ i = .int .i64 j ∧ u = .int .i64 r ∧ r = (bits32 j X : Int)) (fun _ i => 8 - (intOf i).toNat)
      case atStart => exact ⟨0, _, by omega, rfl, rfl, HX.out⟩
      case round =>
        obtain ⟨j, r, hj, rfl, rfl, hr⟩ := hrel
        have rb := bits32_lt (k := j) hXl
        have r0 : 0 ≤ r ∧ r < 4294967296 := by omega
        by_cases hj8 : j < 8
        · have jl : (j : Int) < 8 := by omega
          by_cases h : bits32 j X % 2 = 1
          · have d : (r % 2 == 1) = true := beq_t (by omega)
            have M : Hid (bits .xor .i64 (r / 2) 3988292384 = (bits32 (j + 1) X : Int)) := Lib.hid (by
              rw [hr, show ((bits32 j X : Nat) : Int) / 2 = ((bits32 j X / 2 : Nat) : Int) by omega, show (3988292384 : Int) = ((3988292384 : Nat) : Int) from rfl, i64_xor_nat _ _ (by omega) (by omega)]
              show _ = ((bit32 (bits32 j X) : Nat) : Int)
              rw [bit32, if_pos h])
            clear hr rb h
            go_wp2_with fail
            go_round
            case rel => exact ⟨j + 1, _, by omega, by go_num, rfl, M.out⟩
            case measure => simp [intOf]; omega
          · have d : (r % 2 == 1) = false := beq_f (by omega)
            have M : Hid (r / 2 = (bits32 (j + 1) X : Int)) := Lib.hid (by
              rw [hr]
              show _ = ((bit32 (bits32 j X) : Nat) : Int)
              rw [bit32, if_neg h]; omega)
            clear hr rb h
            go_wp2_with fail
            go_round
            case rel => exact ⟨j + 1, _, by omega, by go_num, rfl, M.out⟩
            case measure => simp [intOf]; omega
        · obtain rfl : j = 8 := by omega
          have M : Hid (r = (crc32F (s.data.toList.take (k + 1)) : Int)) := Lib.hid (by rw [hr]; exact N.out)
          clear hr rb
          go_wp2_with fail
          go_round
          case rel => exact ⟨k + 1, _, by omega, by go_num, rfl, M.out⟩
          case measure => simp [intOf]; omega
    · have N : Hid (v = (crc32F s.data.toList : Int)) := Lib.hid (by rw [hv, take_full hlt])
      clear hv nb
      go_wp2_with fail
      go_ret
      exact ⟨ret1 (by rw [← N.out]), rfl⟩
set_option maxHeartbeats 1000000 in
/-- additiveref03.Hash -/
theorem ref_Hash (s : ByteArray) (hs : (s.size : Int) ≤ 9223372036854775807) (w : World) :
    Calls Try.prog 16 #[.string s] w fun e w' => e = .returned (.int .u64 (hashN s.data.toList : Int)) ∧ w = w' := by
  go_enter Try.func16, Try.ntmps16
  go_wp2_with fail
  go_loop [3, 4] (fun u i => ∃ (k : Nat) (v : Int), k ≤ s.size ∧ i = .int .i64 k ∧ u = .int .u64 v ∧ v = (hashN (s.data.toList.take k) : Int)) (fun _ i => s.size - (intOf i).toNat)
  case atStart => exact ⟨0, 14695981039346656037, by omega, rfl, rfl, rfl⟩
  case round =>
    obtain ⟨k, v, hk, rfl, rfl, hv⟩ := hrel
    have nb := hashN_lt (s.data.toList.take k)
    have v0 : 0 ≤ v := by omega
    by_cases hlt : k < s.size
    · have x0 : 0 ≤ (s[k].toNat : Int) := by omega
      have x1 := sum_byte s[k]
      have kl : (k : Int) < s.size := by omega
      have N : Hid (bits .xor .u64 v (s[k].toNat : Int) * 1099511628211 % 18446744073709551616 = (hashN (s.data.toList.take (k + 1)) : Int)) := Lib.hid (by
        have := s[k].toNat_lt
        rw [take_next hlt, hashN_snoc, hv, u64_xor_nat _ _ nb (by omega)]
        unfold hashS
        omega)
      clear hv nb
      go_wp2_with fail
      go_round
      case rel => exact ⟨k + 1, _, by omega, by go_num, rfl, N.out⟩
      case measure => simp [intOf]; omega
    · have N : Hid (v = (hashN s.data.toList : Int)) := Lib.hid (by rw [hv, take_full hlt])
      clear hv nb
      go_wp2_with fail
      go_ret
      exact ⟨ret1 N.out, rfl⟩
end Go.Proofs.Ytcjlopnaakiccaa

