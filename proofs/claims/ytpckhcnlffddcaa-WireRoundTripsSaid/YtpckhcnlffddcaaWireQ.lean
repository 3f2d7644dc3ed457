/-
  Contract of package wire's decode: the number of some bytes of a string, or the error.
-/
import Derived.Test.YtpckhcnlffddcaaWireP
import Derived.Laws.BitsAllLaws
namespace Go.Proofs.Ytpckhcnlffddcaa
open Go.RowKit
theorem wire_decode_arg (s : ByteArray) (a n : Int) (hs : s.size ≤ 9223372036854775807) (h : a < 0 ∨ (s.size : Int) < a ∨ ¬ (1 ≤ n ∧ n ≤ 8)) (w : World) :
    Calls Try.prog 30 #[.string s, .int .i64 a, .int .i64 n] w fun e w' => e = .returned (.tuple #[.int .u64 0, .int .i64 1]) ∧ w = w' := by
  have sI : (s.size : Int) ≤ 9223372036854775807 := by omega
  clear hs
  rcases (show a < 0 ∨ (0 ≤ a ∧ (s.size : Int) < a) ∨ (0 ≤ a ∧ a ≤ s.size ∧ ¬ (1 ≤ n ∧ n ≤ 8)) by omega) with h1 | ⟨h1, h2⟩ | ⟨h1, h2, h3⟩
  · have d := dlt_t h1
    clear h
    go_enter Try.func30, Try.ntmps30
    go_wp2_with fail
    go_ret2
    exact ⟨rfl, rfl⟩
  · have d := dlt_f h1
    have d2 := dlt_t h2
    clear h
    go_enter Try.func30, Try.ntmps30
    go_wp2_with fail
    go_ret2
    exact ⟨rfl, rfl⟩
  · have d := dlt_f h1
    have d2 := dlt_f h2
    have c := Lib.hid (wire_valid_f n h3 w)
    clear h h3
    go_enter Try.func30, Try.ntmps30
    go_wp2_with fail
    refine (c.out).mono ?_; rintro e w' ⟨rfl, rfl⟩
    go_wp2_with fail
    go_ret2
    exact ⟨rfl, rfl⟩
theorem wire_decode_cut (s : ByteArray) (a n : Int) (hs : s.size ≤ 9223372036854775807) (h0 : 0 ≤ a) (h1 : a ≤ s.size) (n1 : 1 ≤ n) (n8 : n ≤ 8) (h : (s.size : Int) - a < n) (w : World) :
    Calls Try.prog 30 #[.string s, .int .i64 a, .int .i64 n] w fun e w' => e = .returned (.tuple #[.int .u64 0, .int .i64 6]) ∧ w = w' := by
  have sI : (s.size : Int) ≤ 9223372036854775807 := by omega
  clear hs
  have d := dlt_f h0
  have d2 := dlt_f h1
  have d3 := dlt_t h
  have c := Lib.hid (wire_valid_t n n1 n8 w)
  go_enter Try.func30, Try.ntmps30
  go_wp2_with fail
  refine (c.out).mono ?_; rintro e w' ⟨rfl, rfl⟩
  go_wp2_with fail
  go_ret2
  exact ⟨rfl, rfl⟩
theorem num_at {s : ByteArray} {a k : Nat} (h : a + k < s.size) : num ((s.data.toList.drop a).take (k + 1)) = num ((s.data.toList.drop a).take k) * 256 + s[a + k].toNat := by
  rw [List.take_add_one, List.getElem?_drop, wire_at s (a + k) h]; exact num_snoc _ _
set_option maxHeartbeats 1000000 in
theorem or256 (a b : Int) (a0 : 0 ≤ a) (b0 : 0 ≤ b) (hb : b < 256) (ha : a < 72057594037927936) : bits .or .u64 (a * 256) b = a * 256 + b := by
  obtain ⟨m, rfl⟩ := Int.eq_ofNat_of_zero_le a0
  obtain ⟨n, rfl⟩ := Int.eq_ofNat_of_zero_le b0
  rw [show (m : Int) * 256 = ((m * 256 : Nat) : Int) by omega, u64_or_nat _ _ (by omega) (by omega), nat_join 8 (m * 256) n (by omega) (by omega)]
  omega
set_option maxRecDepth 100000 in
theorem wire_decode_ok (s : ByteArray) (a n : Nat) (hs : s.size ≤ 9223372036854775807) (n1 : 1 ≤ n) (n8 : n ≤ 8) (h : a + n ≤ s.size) (w : World) :
    Calls Try.prog 30 #[.string s, .int .i64 (a : Int), .int .i64 (n : Int)] w fun e w' => e = .returned (.tuple #[.int .u64 (num ((s.data.toList.drop a).take n) : Int), .int .i64 0]) ∧ w = w' := by
  have sI : (s.size : Int) ≤ 9223372036854775807 := by omega
  clear hs
  have nI : (n : Int) ≤ 8 := by omega
  have aI : (a : Int) ≤ s.size := by omega
  have d0 : decide ((a : Int) < 0) = false := dlt_f (by omega)
  have d2 : decide (s.size < a) = false := decide_eq_false (by omega)
  have d3 : decide ((s.size : Int) - a < n) = false := dlt_f (by omega)
  have c := Lib.hid (wire_valid_t n (by omega) nI w)
  go_enter Try.func30, Try.ntmps30
  go_wp2_with fail
  refine (c.out).mono ?_; rintro e w' ⟨rfl, rfl⟩
  go_wp2_with fail
  go_loop [8, 30] (fun u i => ∃ (k : Nat) (v : Int), k ≤ n ∧ i = .int .i64 k ∧ u = .int .u64 v ∧ v = (num ((s.data.toList.drop a).take k) : Int)) (fun _ i => n - (intOf i).toNat)
  case atStart => exact ⟨0, 0, by omega, rfl, rfl, by simp [num]⟩
  case round =>
    obtain ⟨k, v, hk, rfl, rfl, hv⟩ := hrel
    by_cases hlt : k < n
    · have nb := num_bound (s.data.toList.drop a) k (by omega)
      have v0 : 0 ≤ v ∧ v < 72057594037927936 := by omega
      have x0 : 0 ≤ (s[a + k].toNat : Int) := by omega
      have x1 := wire_byte s[a + k]
      have kl : (k : Int) < n := by omega
      have kl2 : (a : Int) + k < s.size := by omega
      have N : Hid (bits .or .u64 (v * 256) (s[a + k].toNat : Int) = (num ((s.data.toList.drop a).take (k + 1)) : Int)) := Lib.hid (by rw [or256 _ _ v0.1 x0 x1 v0.2, num_at (by omega), hv]; omega)
      clear hv nb
      go_wp2_with fail
      go_round
      case rel => exact ⟨k + 1, _, by omega, by go_num, rfl, N.out⟩
      case measure => simp [intOf]; omega
    · have e : k = n := by omega
      have N : Hid (v = (num ((s.data.toList.drop a).take n) : Int)) := Lib.hid (by rw [hv, e])
      clear hv
      go_wp2_with fail
      go_ret2
      exact ⟨ret2 N.out rfl, rfl⟩
end Go.Proofs.Ytpckhcnlffddcaa
