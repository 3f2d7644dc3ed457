/-
  The walks of the laws of package sum: each answers true.
-/
import Derived.Test.YtcjlopnaakiccaaSumE
namespace Go.Proofs.Ytcjlopnaakiccaa
open Go.RowKit
theorem i64_range {n : Int} (h : (Lit.int .i64 n).wf = true) : -9223372036854775808 ≤ n ∧ n ≤ 9223372036854775807 := by
  have h1 : IntKind.i64.min = -9223372036854775808 := by decide
  have h2 : IntKind.i64.max = 9223372036854775807 := by decide
  replace h : (decide (IntKind.i64.min ≤ n) && decide (n ≤ IntKind.i64.max)) = true := h
  rw [h1, h2, Bool.and_eq_true, decide_eq_true_iff, decide_eq_true_iff] at h
  exact h
theorem u8_range {n : Int} (h : (Lit.int .u8 n).wf = true) : 0 ≤ n ∧ n ≤ 255 := by
  have h1 : IntKind.u8.min = 0 := by decide
  have h2 : IntKind.u8.max = 255 := by decide
  replace h : (decide (IntKind.u8.min ≤ n) && decide (n ≤ IntKind.u8.max)) = true := h
  rw [h1, h2, Bool.and_eq_true, decide_eq_true_iff, decide_eq_true_iff] at h
  exact h
theorem u64_range {n : Int} (h : (Lit.int .u64 n).wf = true) : 0 ≤ n ∧ n ≤ 18446744073709551615 := by
  have h1 : IntKind.u64.min = 0 := by decide
  have h2 : IntKind.u64.max = 18446744073709551615 := by decide
  replace h : (decide (IntKind.u64.min ≤ n) && decide (n ≤ IntKind.u64.max)) = true := h
  rw [h1, h2, Bool.and_eq_true, decide_eq_true_iff, decide_eq_true_iff] at h
  exact h
theorem calls_ext {P : Program} {f : FuncId} {args : Array Value} {w : World} {e0 : Ending} (h : Calls P f args w fun e w' => e = e0 ∧ w = w') : Calls P f args w fun e w' => e = e0 ∧ Ext w w' :=
  h.mono fun _ _ ⟨he, hw⟩ => ⟨he, hw ▸ Ext.refl _⟩
theorem law_awake (w : World) : Calls Try.prog 17 #[] w fun e w' => e = .returned (.bool true) ∧ w = w' := by
  have c1 := fun w => sum_CRC16 ⟨#[49, 50, 51, 52, 53, 54, 55, 56, 57]⟩ (by decide) w
  have c2 := fun w => sum_CRC32 ⟨#[49, 50, 51, 52, 53, 54, 55, 56, 57]⟩ (by decide) w
  have c3 := fun w => sum_Xor ⟨#[49, 50, 51, 52, 53, 54, 55, 56, 57]⟩ (by decide) w
  have c4 := fun w => sum_Hash ⟨#[]⟩ (by decide) w
  rw [show ((crcN (ByteArray.mk #[49, 50, 51, 52, 53, 54, 55, 56, 57]).data.toList : Nat) : Int) = 10673 by decide +kernel] at c1
  rw [show (4294967295 - ((crc32F (ByteArray.mk #[49, 50, 51, 52, 53, 54, 55, 56, 57]).data.toList : Nat) : Int)) = 3421780262 by decide +kernel] at c2
  rw [show ((xorN (ByteArray.mk #[49, 50, 51, 52, 53, 54, 55, 56, 57]).data.toList : Nat) : Int) = 49 by decide +kernel] at c3
  rw [show ((hashN (ByteArray.mk #[]).data.toList : Nat) : Int) = 14695981039346656037 by decide +kernel] at c4
  have C1 := Lib.hid c1; have C2 := Lib.hid c2; have C3 := Lib.hid c3; have C4 := Lib.hid c4
  clear c1 c2 c3 c4
  go_enter Try.func17, Try.ntmps17
  go_wp2_with fail
  refine (C1.out _).mono ?_; rintro e w' ⟨rfl, rfl⟩
  go_wp2_with fail
  refine (C2.out _).mono ?_; rintro e w' ⟨rfl, rfl⟩
  go_wp2_with fail
  refine (C3.out _).mono ?_; rintro e w' ⟨rfl, rfl⟩
  go_wp2_with fail
  refine (C4.out _).mono ?_; rintro e w' ⟨rfl, rfl⟩
  go_wp2_with fail
  go_ret
  exact ⟨rfl, rfl⟩
theorem short_size (s : ByteArray) : ∃ t : ByteArray, (⟨(s.data.toList.take 200).toArray⟩ : ByteArray) = t ∧ t.data.toList = s.data.toList.take 200 ∧ t.size ≤ 200 := by
  refine ⟨_, rfl, by simp, ?_⟩
  show (s.data.toList.take 200).toArray.size ≤ 200
  simp; omega
set_option maxHeartbeats 1000000 in
theorem law_SumValues (s : ByteArray) (hs : s.size ≤ maxLen) (w : World) :
    Calls Try.prog 3 #[.string s] w fun e w' => e = .returned (.bool true) ∧ Ext w w' := by
  unfold maxLen at hs
  have cs := fun w => law_short s (by omega) w
  obtain ⟨t, ht, _, h2⟩ := short_size s
  rw [ht] at cs
  have CS := Lib.hid cs
  have C1 := sum_Xor t (by omega); have C2 := ref_Xor t (by omega)
  have C3 := sum_CRC16 t (by omega); have C4 := ref_CRC16 t (by omega)
  have C5 := sum_CRC32 t (by omega); have C6 := ref_CRC32 t (by omega)
  have C7 := sum_Hash t (by omega); have C8 := ref_Hash t (by omega)
  generalize (xorN t.data.toList : Int) = a at *
  generalize (crcN t.data.toList : Int) = b at *
  generalize 4294967295 - (crc32F t.data.toList : Int) = c at *
  generalize (hashN t.data.toList : Int) = d at *
  have D1 := Lib.hid C1; have D2 := Lib.hid C2; have D3 := Lib.hid C3; have D4 := Lib.hid C4; have D5 := Lib.hid C5; have D6 := Lib.hid C6; have D7 := Lib.hid C7; have D8 := Lib.hid C8
  clear cs ht hs C1 C2 C3 C4 C5 C6 C7 C8 h2
  refine calls_ext ?_
  go_enter Try.func3, Try.ntmps3
  go_wp2_with fail
  refine (CS.out _).mono ?_; rintro e w' ⟨rfl, rfl⟩
  go_wp2_with fail
  refine (D1.out _).mono ?_; rintro e w' ⟨rfl, rfl⟩
  go_wp2_with fail
  refine (D2.out _).mono ?_; rintro e w' ⟨rfl, rfl⟩
  go_wp2_with fail
  refine (D3.out _).mono ?_; rintro e w' ⟨rfl, rfl⟩
  go_wp2_with fail
  refine (D4.out _).mono ?_; rintro e w' ⟨rfl, rfl⟩
  go_wp2_with fail
  refine (D5.out _).mono ?_; rintro e w' ⟨rfl, rfl⟩
  go_wp2_with fail
  refine (D6.out _).mono ?_; rintro e w' ⟨rfl, rfl⟩
  go_wp2_with fail
  refine (D7.out _).mono ?_; rintro e w' ⟨rfl, rfl⟩
  go_wp2_with fail
  refine (D8.out _).mono ?_; rintro e w' ⟨rfl, rfl⟩
  go_wp2_with fail
  refine (law_awake _).mono ?_; rintro e w' ⟨rfl, rfl⟩
  go_wp2_with fail
  go_ret
  exact ⟨rfl, rfl⟩
set_option maxHeartbeats 1000000 in
theorem law_SumMixes (a : Int) (a0 : 0 ≤ a) (a1 : a ≤ 18446744073709551615) (b : Int) (b0 : 0 ≤ b) (b1 : b ≤ 18446744073709551615) (w : World) :
    Calls Try.prog 4 #[.int .u64 a, .int .u64 b] w fun e w' => e = .returned (.bool true) ∧ Ext w w' := by
  have c1 := sum_Mix a.toNat b.toNat (by omega) (by omega)
  have c2 := ref_Mix a.toNat b.toNat (by omega) (by omega)
  rw [show ((a.toNat : Nat) : Int) = a by omega, show ((b.toNat : Nat) : Int) = b by omega] at c1 c2
  generalize ((mixN a.toNat b.toNat : Nat) : Int) = m at *
  have C1 := Lib.hid c1; have C2 := Lib.hid c2
  clear c1 c2
  go_enter Try.func4, Try.ntmps4
  go_wp2_with fail
  refine (C1.out _).mono ?_; rintro e w1 ⟨rfl, h1⟩
  go_wp2_with fail
  refine (C2.out _).mono ?_; rintro e w2 ⟨rfl, h2⟩
  go_wp2_with fail
  refine (law_awake _).mono ?_; rintro e w' ⟨rfl, rfl⟩
  go_wp2_with fail
  go_ret
  exact ⟨rfl, h1.trans h2⟩
theorem open_seal (l : List UInt8) : openS (l ++ sealB l) = (l, 0) := by
  have e : (sealB l).length = 2 := rfl
  unfold openS
  rw [List.length_append, e, if_neg (by omega), show l.length + 2 - 2 = l.length by omega, List.drop_left, List.take_left, if_pos rfl]
theorem seal_string (l : List UInt8) (_ : l.length ≤ 200) : ∃ z : ByteArray, (⟨(l ++ sealB l).toArray⟩ : ByteArray) = z ∧ z.data.toList = l ++ sealB l ∧ z.size = l.length + 2 := by
  refine ⟨_, rfl, by simp, ?_⟩
  show (l ++ sealB l).toArray.size = _
  simp [sealB]
set_option maxHeartbeats 2000000 in
theorem law_SumSeals (s : ByteArray) (hs : s.size ≤ maxLen) (w : World) :
    Calls Try.prog 5 #[.string s] w fun e w' => e = .returned (.bool true) ∧ Ext w w' := by
  unfold maxLen at hs
  have cs := fun w => law_short s (by omega) w
  obtain ⟨t, ht, _, h2⟩ := short_size s
  rw [ht] at cs
  have CS := Lib.hid cs
  obtain ⟨z, hz, hl, hzs⟩ := seal_string t.data.toList (by rw [slen]; omega)
  have C1 := sum_Open t (by omega); have C2 := ref_Open t (by omega)
  have C3 := sum_Seal t (by omega); have C4 := ref_Seal t (by omega)
  have C5 := sum_Open z (by rw [slen] at hzs; omega)
  rw [hl, open_seal] at C5
  rw [hz] at C3 C4
  unfold ResS at C1 C2 C5
  dsimp only at C5
  rw [str_of] at C5
  generalize openS t.data.toList = p at *
  obtain ⟨x, y⟩ := p
  have D1 := Lib.hid C1; have D2 := Lib.hid C2; have D3 := Lib.hid C3; have D4 := Lib.hid C4; have D5 := Lib.hid C5
  clear cs ht hs C1 C2 C3 C4 C5 h2 hz hl hzs
  go_enter Try.func5, Try.ntmps5
  go_wp2_with fail
  refine (CS.out _).mono ?_; rintro e w' ⟨rfl, rfl⟩
  go_wp2_with fail
  refine (D1.out _).mono ?_; rintro e w1 ⟨rfl, h1⟩
  go_wp2_with fail
  refine (D2.out _).mono ?_; rintro e w2 ⟨rfl, h2⟩
  go_wp2_with fail
  refine (D3.out _).mono ?_; rintro e w3 ⟨rfl, h3⟩
  go_wp2_with fail
  refine (D5.out _).mono ?_; rintro e w4 ⟨rfl, h4⟩
  go_wp2_with fail
  refine (D3.out _).mono ?_; rintro e w5 ⟨rfl, h5⟩
  go_wp2_with fail
  refine (D4.out _).mono ?_; rintro e w6 ⟨rfl, h6⟩
  go_wp2_with fail
  refine (law_awake _).mono ?_; rintro e w' ⟨rfl, rfl⟩
  go_wp2_with fail
  go_ret
  exact ⟨rfl, ((((h1.trans h2).trans h3).trans h4).trans h5).trans h6⟩
set_option maxHeartbeats 1000000 in
theorem law_SumJoins (s : ByteArray) (hs : s.size ≤ maxLen) (s' : ByteArray) (hs' : s'.size ≤ maxLen) (w : World) :
    Calls Try.prog 7 #[.string s, .string s'] w fun e w' => e = .returned (.bool true) ∧ Ext w w' := by
  unfold maxLen at hs hs'
  have cs := fun w => law_short s (by omega) w
  have cs' := fun w => law_short s' (by omega) w
  obtain ⟨t, ht, _, h2⟩ := short_size s
  obtain ⟨t', ht', _, h2'⟩ := short_size s'
  rw [ht] at cs
  rw [ht'] at cs'
  have CS := Lib.hid cs; have CS' := Lib.hid cs'
  obtain ⟨z, hz, hl, hzs⟩ := seal_string t.data.toList (by rw [slen]; omega)
  obtain ⟨u, hu⟩ : ∃ u : ByteArray, t ++ t' = u := ⟨_, rfl⟩
  have ul : u.data.toList = t.data.toList ++ t'.data.toList := by rw [← hu, ByteArray.data_append, Array.toList_append]
  have us : u.size ≤ 400 := by rw [← slen, ul, List.length_append, slen, slen]; omega
  have C1 := sum_Xor u (by omega)
  have C2 := sum_Xor t (by omega)
  have C3 := sum_Xor t' (by omega)
  have C4 := sum_Seal t (by omega)
  have C5 := sum_CRC16 z (by rw [slen] at hzs; omega)
  rw [hl, crcN_seal] at C5
  rw [hz] at C4
  rw [ul, xorN_append] at C1
  have x1 := xorN_lt t.data.toList
  have x2 := xorN_lt t'.data.toList
  have hx : bits .xor .i64 (xorN t.data.toList : Int) (xorN t'.data.toList : Int) = ((xorN t.data.toList ^^^ xorN t'.data.toList : Nat) : Int) := i64_xor_nat _ _ (by omega) (by omega)
  generalize xorN t.data.toList ^^^ xorN t'.data.toList = m at *
  generalize xorN t.data.toList = a at *
  generalize xorN t'.data.toList = b at *
  have D1 := Lib.hid C1; have D2 := Lib.hid C2; have D3 := Lib.hid C3; have D4 := Lib.hid C4; have D5 := Lib.hid C5
  have hu2 := Lib.hid hu
  clear cs ht hs C1 C2 C3 C4 C5 hz hl hzs cs' ht' hs' x1 x2 ul
  go_enter Try.func7, Try.ntmps7
  go_wp2_with fail
  refine (CS.out _).mono ?_; rintro e w' ⟨rfl, rfl⟩
  go_wp2_with fail
  refine (CS'.out _).mono ?_; rintro e w' ⟨rfl, rfl⟩
  go_wp2_with fail
  all_goals first
    | (exfalso; omega)
    | (
       refine (D1.out _).mono ?_; rintro e w' ⟨rfl, rfl⟩
       go_wp2_with fail
       refine (D2.out _).mono ?_; rintro e w' ⟨rfl, rfl⟩
       go_wp2_with fail
       refine (D3.out _).mono ?_; rintro e w' ⟨rfl, rfl⟩
       go_wp2_with fail
       refine (D4.out _).mono ?_; rintro e w1 ⟨rfl, h1⟩
       go_wp2_with fail
       refine (D5.out _).mono ?_; rintro e w' ⟨rfl, rfl⟩
       go_wp2_with fail
       refine (law_awake _).mono ?_; rintro e w' ⟨rfl, rfl⟩
       go_wp2_with fail
       go_ret
       exact ⟨rfl, h1⟩)
end Go.Proofs.Ytcjlopnaakiccaa

