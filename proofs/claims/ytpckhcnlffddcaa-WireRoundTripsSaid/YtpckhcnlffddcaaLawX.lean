/-
  The walks of the laws WireOrders and WireLong: each answers true.
-/
import Derived.Test.YtpckhcnlffddcaaLawW
namespace Go.Proofs.Ytpckhcnlffddcaa
open Go.RowKit
theorem uint_cases (n k : Int) : (∃ e, e ≠ 0 ∧ uintS n k = ([], e)) ∨ (0 ≤ n ∧ 1 ≤ k ∧ k ≤ 8 ∧ n < 256 ^ k.toNat ∧ uintS n k = (enc n.toNat k.toNat, 0)) := by
  by_cases h : 1 ≤ k ∧ k ≤ 8
  · by_cases h2 : n < 0 ∨ 256 ^ k.toNat ≤ n
    · exact .inl ⟨3, by decide, uintS_over h h2⟩
    · exact .inr ⟨by omega, h.1, h.2, by omega, uintS_ok h h2⟩
  · exact .inl ⟨1, by decide, uintS_arg h⟩
theorem less_enc (u v w : Nat) (hu : u < 256 ^ w) (hv : v < 256 ^ w) : Op.bytesLess (enc u w) (enc v w) = decide (u < v) := by
  induction w generalizing u v with
  | zero => simp at hu hv; subst hu; subst hv; rfl
  | succ w ih =>
    have hp : 0 < 256 ^ w := Nat.pow_pos (by omega)
    rw [Nat.pow_succ] at hu hv
    have du : u / 256 ^ w < 256 := Nat.div_lt_of_lt_mul (by rw [Nat.mul_comm] at hu; exact Nat.mul_comm _ _ ▸ hu)
    have dv : v / 256 ^ w < 256 := Nat.div_lt_of_lt_mul (by rw [Nat.mul_comm] at hv; exact Nat.mul_comm _ _ ▸ hv)
    have eu := Nat.div_add_mod u (256 ^ w)
    have ev := Nat.div_add_mod v (256 ^ w)
    have ru := Nat.mod_lt u hp
    have rv := Nat.mod_lt v hp
    have i := ih (u % 256 ^ w) (v % 256 ^ w) ru rv
    rw [enc_mod, enc_mod] at i
    rw [enc_cons, enc_cons, Nat.mod_eq_of_lt du, Nat.mod_eq_of_lt dv]
    show (decide (UInt8.ofNat (u / 256 ^ w) < UInt8.ofNat (v / 256 ^ w)) || (UInt8.ofNat (u / 256 ^ w) == UInt8.ofNat (v / 256 ^ w) && Op.bytesLess (enc u w) (enc v w))) = decide (u < v)
    rw [i]
    have tu : (UInt8.ofNat (u / 256 ^ w)).toNat = u / 256 ^ w := by rw [UInt8.toNat_ofNat']; exact Nat.mod_eq_of_lt du
    have tv : (UInt8.ofNat (v / 256 ^ w)).toNat = v / 256 ^ w := by rw [UInt8.toNat_ofNat']; exact Nat.mod_eq_of_lt dv
    rcases Nat.lt_trichotomy (u / 256 ^ w) (v / 256 ^ w) with h | h | h
    · rw [decide_eq_true (UInt8.lt_iff_toNat_lt.2 (by rw [tu, tv]; exact h)), Bool.true_or, decide_eq_true (Nat.lt_of_div_lt_div h)]
    · rw [h, beq_self_eq_true, Bool.true_and, decide_eq_false (fun e => by have := UInt8.lt_iff_toNat_lt.1 e; omega), Bool.false_or, decide_eq_decide]
      rw [h] at eu
      omega
    · rw [decide_eq_false (fun e => by have := UInt8.lt_iff_toNat_lt.1 e; omega), Bool.false_or, show (UInt8.ofNat (u / 256 ^ w) == UInt8.ofNat (v / 256 ^ w)) = false by
        rw [beq_eq_false_iff_ne]; intro e; rw [e] at tu; omega]
      rw [Bool.false_and, decide_eq_false (by have := Nat.lt_of_div_lt_div h; omega)]
set_option maxHeartbeats 1000000 in
theorem law_WireOrders (a : Int) (a0 : -9223372036854775808 ≤ a) (a1 : a ≤ 9223372036854775807) (b : Int) (b0 : -9223372036854775808 ≤ b) (b1 : b ≤ 9223372036854775807) (k : Int) (_ : -9223372036854775808 ≤ k) (_ : k ≤ 9223372036854775807) (w : World) :
    Calls Try.prog 10 #[.int .i64 a, .int .i64 b, .int .i64 k] w fun e w' => e = .returned (.bool true) ∧ Ext w w' := by
  have c1 := wire_Uint a k a0 a1
  have c2 := wire_Uint b k b0 b1
  unfold ResS at c1 c2
  rcases uint_cases a k with ⟨e, he, h⟩ | ⟨p0, k1, k8, pk, h⟩
  · rw [h] at c1
    generalize uintS b k = q at *
    obtain ⟨l, f⟩ := q
    have d := bne_t he
    have C1 := Lib.hid c1; have C2 := Lib.hid c2
    clear c1 c2 h he
    go_enter Try.func10, Try.ntmps10
    go_wp2_with fail
    refine (C1.out _).mono ?_; rintro e w1 ⟨rfl, h1⟩
    go_wp2_with fail
    refine (C2.out _).mono ?_; rintro e w2 ⟨rfl, h2⟩
    go_wp2_with fail
    refine (law_awake _).mono ?_; rintro e w3 ⟨rfl, h3⟩
    go_wp2_with fail
    go_ret
    exact ⟨rfl, (h1.trans h2).trans h3⟩
  rcases uint_cases b k with ⟨e, he, h'⟩ | ⟨q0, _, _, qk, h'⟩
  · rw [h'] at c2
    rw [h] at c1
    have d := bne_t he
    generalize enc a.toNat k.toNat = l at *
    have C1 := Lib.hid c1; have C2 := Lib.hid c2
    clear c1 c2 h h' he
    go_enter Try.func10, Try.ntmps10
    go_wp2_with fail
    refine (C1.out _).mono ?_; rintro e w1 ⟨rfl, h1⟩
    go_wp2_with fail
    refine (C2.out _).mono ?_; rintro e w2 ⟨rfl, h2⟩
    go_wp2_with fail
    refine (law_awake _).mono ?_; rintro e w3 ⟨rfl, h3⟩
    go_wp2_with fail
    go_ret
    exact ⟨rfl, (h1.trans h2).trans h3⟩
  · rw [h] at c1
    rw [h'] at c2
    obtain ⟨j, rfl⟩ : ∃ j : Nat, k = j := ⟨k.toNat, by omega⟩
    rw [Int.toNat_natCast] at c1 c2 pk qk
    have la : ((enc a.toNat j).length : Int) = j := by rw [enc_len]
    have lb : ((enc b.toNat j).length : Int) = j := by rw [enc_len]
    have ls : Op.bytesLess (enc a.toNat j) (enc b.toNat j) = decide (a < b) := by
      rw [less_enc _ _ _ (by have : ((256 ^ j : Nat) : Int) = 256 ^ j := by simp
                             omega) (by have : ((256 ^ j : Nat) : Int) = 256 ^ j := by simp
                                        omega), decide_eq_decide]
      omega
    generalize enc a.toNat j = l at *
    generalize enc b.toNat j = m at *
    have C1 := Lib.hid c1; have C2 := Lib.hid c2
    clear c1 c2 h h' pk qk
    go_enter Try.func10, Try.ntmps10
    go_wp2_with fail
    refine (C1.out _).mono ?_; rintro e w1 ⟨rfl, h1⟩
    go_wp2_with fail
    refine (C2.out _).mono ?_; rintro e w2 ⟨rfl, h2⟩
    go_wp2_with fail
    refine (law_awake _).mono ?_; rintro e w3 ⟨rfl, h3⟩
    go_wp2_with fail
    go_ret
    exact ⟨rfl, (h1.trans h2).trans h3⟩
theorem long_num (k : Nat) (h : k < 65536) : enc k 2 = [UInt8.ofNat (k / 256), UInt8.ofNat (k % 256)] := by
  rw [enc_cons, enc_cons, enc, Nat.pow_one, Nat.pow_zero, Nat.div_one, Nat.mod_eq_of_lt (a := k / 256) (by omega)]
set_option maxHeartbeats 1000000 in
theorem law_WireLong (n : Int) (n0 : 0 ≤ n) (_ : n ≤ 255) (w : World) :
    Calls Try.prog 7 #[.int .u8 n] w fun e w' => e = .returned (.bool true) ∧ Ext w w' := by
  obtain ⟨m, hm, m0, m1⟩ : ∃ m, n % 12 = m ∧ 0 ≤ m ∧ m ≤ 11 := ⟨_, rfl, by omega, by omega⟩
  obtain ⟨k, hk⟩ : ∃ k : Nat, 65530 + m = k := ⟨(65530 + m).toNat, by omega⟩
  obtain ⟨wm, hrun, own, ext, hlt⟩ := made w k (by omega)
  have hst := own.string
  have bl : (⟨(List.replicate k (0 : UInt8)).toArray⟩ : ByteArray).size = k := by
    show (List.replicate k (0 : UInt8)).toArray.size = k
    simp
  have c := wire_Text ⟨(List.replicate k (0 : UInt8)).toArray⟩ (by omega) wm
  rw [show (⟨(List.replicate k (0 : UInt8)).toArray⟩ : ByteArray).data.toList = List.replicate k 0 by simp] at c
  have hz : n.tmod 12 = m := by rw [← hm]; exact Int.tmod_eq_emod_of_nonneg n0
  by_cases h : 65535 < k
  · rw [show textS (List.replicate k 0) = ([], 2) by unfold textS; rw [List.length_replicate, if_pos h]] at c
    unfold ResS at c
    generalize (⟨(List.replicate k (0 : UInt8)).toArray⟩ : ByteArray) = s at *
    have C := Lib.hid c; have EX := Lib.hid ext
    have k0 : (65535 : Int) < k := by omega
    clear c ext own hlt h bl
    go_enter Try.func7, Try.ntmps7
    go_wp2_with fail
    refine (C.out).mono ?_; rintro e w1 ⟨rfl, h1⟩
    go_wp2_with fail
    refine (law_awake _).mono ?_; rintro e w3 ⟨rfl, h3⟩
    go_wp2_with fail
    go_ret
    exact ⟨rfl, (EX.out.trans h1).trans h3⟩
  · rw [show textS (List.replicate k 0) = (enc k 2 ++ List.replicate k 0, 0) by unfold textS; rw [List.length_replicate, if_neg h], long_num k (by omega)] at c
    unfold ResS at c
    dsimp only at c
    obtain ⟨t, ht⟩ : ∃ t : ByteArray, (⟨([UInt8.ofNat (k / 256), UInt8.ofNat (k % 256)] ++ List.replicate k (0 : UInt8)).toArray⟩ : ByteArray) = t := ⟨_, rfl⟩
    rw [ht] at c
    generalize (⟨(List.replicate k (0 : UInt8)).toArray⟩ : ByteArray) = s at *
    have ts : t.size = k + 2 := by
      rw [← ht]
      show ([UInt8.ofNat (k / 256), UInt8.ofNat (k % 256)] ++ List.replicate k (0 : UInt8)).toArray.size = k + 2
      simp
    have ts3 : 0 < t.size := by omega
    have ts2 : 1 < t.size := by omega
    have t0 : (t[0]'ts3).toNat = 255 := by
      subst ht
      show (UInt8.ofNat (k / 256)).toNat = 255
      rw [UInt8.toNat_ofNat']; omega
    have t1 : (t[1]'ts2).toNat = k - 65280 := by
      subst ht
      show (UInt8.ofNat (k % 256)).toNat = k - 65280
      rw [UInt8.toNat_ofNat']; omega
    clear ht
    have C := Lib.hid c; have EX := Lib.hid ext
    have k0 : (k : Int) ≤ 65535 := by omega
    have k1 : (65530 : Int) ≤ k := by omega
    have k2 : ((k - 65280 : Nat) : Int) = (k : Int) - 65280 := by omega
    clear c ext own hlt h bl
    go_enter Try.func7, Try.ntmps7
    go_wp2_with fail
    refine (C.out).mono ?_; rintro e w1 ⟨rfl, h1⟩
    go_wp2_with fail
    refine (law_awake _).mono ?_; rintro e w3 ⟨rfl, h3⟩
    go_wp2_with fail
    go_ret
    exact ⟨rfl, (EX.out.trans h1).trans h3⟩
end Go.Proofs.Ytpckhcnlffddcaa

