/-
  The walk of the law SumDetects: a change of one byte, or of two neighboring bytes, of a sealed string is detected.
-/
import Derived.Test.YtcjlopnaakiccaaLawS
namespace Go.Proofs.Ytcjlopnaakiccaa
open Go.RowKit
theorem changed_at (z : ByteArray) (p q : List UInt8) (c x : UInt8) (h : z.data.toList = p ++ c :: q) (hz : z.size ≤ 1000) (w : World) :
    Calls Try.prog 24 #[.string z, .int .i64 (p.length : Int), .int .u8 (x.toNat : Int)] w fun e w' => e = .returned (.string ⟨(p ++ (c ^^^ x) :: q).toArray⟩) ∧ Ext w w' := by
  have hl : p.length < z.size := by rw [← slen, h]; simp
  have k := law_changed z p.length x hz hl w
  have e1 : z[p.length] = c := by
    have : z.data.toList[p.length]? = some z[p.length] := sum_at z p.length hl
    rw [h] at this
    simp at this
    exact this.symm
  have e2 : (p ++ c :: q).set p.length (c ^^^ x) = p ++ (c ^^^ x) :: q := by
    rw [List.set_append_right _ _ (Nat.le_refl _), Nat.sub_self]; rfl
  rw [e1, h, e2] at k
  exact k
theorem detect (l p q : List UInt8) (c d x y : UInt8) (h : l ++ sealB l = p ++ c :: d :: q) (hxy : ¬ (x = 0 ∧ y = 0)) : openS (p ++ (c ^^^ x) :: (d ^^^ y) :: q) = ([], 7) := by
  have h0 := crcN_seal l
  rw [h] at h0
  have ne : ¬ (c = c ^^^ x ∧ d = d ^^^ y) := by
    rintro ⟨e1, e2⟩
    refine hxy ⟨?_, ?_⟩
    · have := congrArg (fun t => c ^^^ t) e1
      simpa [← UInt8.xor_assoc] using this.symm
    · have := congrArg (fun t => d ^^^ t) e2
      simpa [← UInt8.xor_assoc] using this.symm
  have h1 := crc_detects p q c d (c ^^^ x) (d ^^^ y) ne
  rw [List.append_assoc, List.append_assoc] at h1
  simp only [List.cons_append, List.nil_append] at h1
  rw [h0] at h1
  unfold openS
  have len : (p ++ (c ^^^ x) :: (d ^^^ y) :: q).length = p.length + (q.length + 2) := by simp
  rw [if_neg (by omega)]
  generalize p ++ (c ^^^ x) :: (d ^^^ y) :: q = L at *
  rw [if_neg]
  intro e
  refine h1 ?_
  have e2 := crcN_seal (L.take (L.length - 2))
  rw [← e, List.take_append_drop] at e2
  exact e2
theorem split_two (L : List UInt8) (a : Nat) (h : a + 1 < L.length) : ∃ p c d q, p.length = a ∧ L = p ++ c :: d :: q := by
  refine ⟨L.take a, L[a], L[a + 1], L.drop (a + 2), by simp; omega, ?_⟩
  rw [← List.drop_eq_getElem_cons h, ← List.drop_eq_getElem_cons (by omega), List.take_append_drop]
theorem byte_of (n : Int) (h0 : 0 ≤ n) (h1 : n ≤ 255) : ∃ x : UInt8, (x.toNat : Int) = n ∧ (x = 0 ↔ n = 0) := by
  have e : (UInt8.ofNat n.toNat).toNat = n.toNat := by rw [UInt8.toNat_ofNat']; omega
  refine ⟨UInt8.ofNat n.toNat, by omega, ⟨fun h => ?_, fun h => by subst h; rfl⟩⟩
  rw [h] at e
  have : (0 : UInt8).toNat = 0 := rfl
  omega
set_option maxHeartbeats 2000000 in
theorem law_SumDetects (s : ByteArray) (hs : s.size ≤ maxLen) (a : Int) (_ : -9223372036854775808 ≤ a) (_ : a ≤ 9223372036854775807) (b : Int) (b0 : 0 ≤ b) (b1 : b ≤ 255) (n : Int) (n0 : 0 ≤ n) (n1 : n ≤ 255) (w : World) :
    Calls Try.prog 6 #[.string s, .int .i64 a, .int .u8 b, .int .u8 n] w fun e w' => e = .returned (.bool true) ∧ Ext w w' := by
  unfold maxLen at hs
  have cs := fun w => law_short s (by omega) w
  obtain ⟨t, ht, _, h2⟩ := short_size s
  rw [ht] at cs
  have CS := Lib.hid cs
  obtain ⟨z, hz, hl, hzs⟩ := seal_string t.data.toList (by rw [slen]; omega)
  have C4 := sum_Seal t (by omega)
  rw [hz] at C4
  have D4 := Lib.hid C4
  have zs : (2 : Int) ≤ z.size ∧ (z.size : Int) ≤ 202 := by rw [slen] at hzs; omega
  obtain ⟨zs0, zs1⟩ := zs
  have d2 : decide ((z.size : Int) < 2) = false := dlt_f zs0
  by_cases h0 : a < 0
  · have d0 := dlt_t h0
    clear cs ht hs C4 h2 hz hl hzs
    go_enter Try.func6, Try.ntmps6
    go_wp2_with fail
    refine (CS.out _).mono ?_; rintro e w' ⟨rfl, rfl⟩
    go_wp2_with fail
    refine (D4.out _).mono ?_; rintro e w1 ⟨rfl, h1⟩
    go_wp2_with fail
    refine (law_awake _).mono ?_; rintro e w' ⟨rfl, rfl⟩
    go_wp2_with fail
    go_ret
    exact ⟨rfl, h1⟩
  have d0 : decide (a < 0) = false := dlt_f (by omega)
  by_cases h3 : (z.size : Int) - 2 < a
  · have d3 := dlt_t h3
    clear cs ht hs C4 h2 hz hl hzs
    go_enter Try.func6, Try.ntmps6
    go_wp2_with fail
    refine (CS.out _).mono ?_; rintro e w' ⟨rfl, rfl⟩
    go_wp2_with fail
    refine (D4.out _).mono ?_; rintro e w1 ⟨rfl, h1⟩
    go_wp2_with fail
    refine (law_awake _).mono ?_; rintro e w' ⟨rfl, rfl⟩
    go_wp2_with fail
    go_ret
    exact ⟨rfl, h1⟩
  have d3 : decide ((z.size : Int) - 2 < a) = false := dlt_f (by omega)
  by_cases h4 : b = 0 ∧ n = 0
  · have d4 := beq_t h4.1
    have d5 := beq_t h4.2
    clear cs ht hs C4 h2 hz hl hzs h4
    go_enter Try.func6, Try.ntmps6
    go_wp2_with fail
    refine (CS.out _).mono ?_; rintro e w' ⟨rfl, rfl⟩
    go_wp2_with fail
    refine (D4.out _).mono ?_; rintro e w1 ⟨rfl, h1⟩
    go_wp2_with fail
    refine (law_awake _).mono ?_; rintro e w' ⟨rfl, rfl⟩
    go_wp2_with fail
    go_ret
    exact ⟨rfl, h1⟩
  obtain ⟨x, hx, hx0⟩ := byte_of b b0 b1
  obtain ⟨y, hy, hy0⟩ := byte_of n n0 n1
  obtain ⟨p, c, d, q, hp, hL⟩ := split_two (t.data.toList ++ sealB t.data.toList) a.toNat (by rw [← hl, slen]; omega)
  have hd := detect _ p q c d x y hL (by rw [hx0, hy0]; exact h4)
  obtain ⟨z1, hz1, hl1, hs1⟩ : ∃ z1 : ByteArray, (⟨(p ++ (c ^^^ x) :: d :: q).toArray⟩ : ByteArray) = z1 ∧ z1.data.toList = (p ++ [c ^^^ x]) ++ d :: q ∧ z1.size ≤ 1000 := by
    refine ⟨_, rfl, by simp, ?_⟩
    have : (p ++ c :: d :: q).length ≤ 202 := by rw [← hL, ← hl, slen]; omega
    show (p ++ (c ^^^ x) :: d :: q).toArray.size ≤ 1000
    simp at this ⊢; omega
  obtain ⟨z2, hz2, hl2, hs2⟩ : ∃ z2 : ByteArray, (⟨(p ++ [c ^^^ x] ++ (d ^^^ y) :: q).toArray⟩ : ByteArray) = z2 ∧ z2.data.toList = p ++ (c ^^^ x) :: (d ^^^ y) :: q ∧ z2.size ≤ 1000 := by
    refine ⟨_, rfl, by simp, ?_⟩
    have : (p ++ c :: d :: q).length ≤ 202 := by rw [← hL, ← hl, slen]; omega
    show (p ++ [c ^^^ x] ++ (d ^^^ y) :: q).toArray.size ≤ 1000
    simp at this ⊢; omega
  have C5 := changed_at z p (d :: q) c x (by rw [hl, hL]) (by omega)
  have C6 := changed_at z1 (p ++ [c ^^^ x]) q d y hl1 hs1
  have C7 := sum_Open z2 (by omega)
  rw [hz1, hx, show (p.length : Int) = a by omega] at C5
  rw [hz2, hy, show ((p ++ [c ^^^ x]).length : Int) = a + 1 by rw [List.length_append, List.length_singleton]; omega] at C6
  rw [hl2, hd] at C7
  unfold ResS at C7
  have D5 := Lib.hid C5; have D6 := Lib.hid C6; have D7 := Lib.hid C7
  have a1 : a ≤ 202 := by omega
  rcases (show b ≠ 0 ∨ (b = 0 ∧ n ≠ 0) by omega) with h5 | ⟨h5, h6⟩
  · have d4 := beq_f h5
    clear cs ht hs C4 h2 hz hl hzs h4 hx hx0 hy hy0 hp hL hd hz1 hl1 hs1 hz2 hl2 hs2 C5 C6 C7 h5
    go_enter Try.func6, Try.ntmps6
    go_wp2_with fail
    refine (CS.out _).mono ?_; rintro e w' ⟨rfl, rfl⟩
    go_wp2_with fail
    refine (D4.out _).mono ?_; rintro e w1 ⟨rfl, h1⟩
    go_wp2_with fail
    refine (D5.out _).mono ?_; rintro e w2 ⟨rfl, h2⟩
    go_wp2_with fail
    refine (D6.out _).mono ?_; rintro e w3 ⟨rfl, h3⟩
    go_wp2_with fail
    refine (D7.out _).mono ?_; rintro e w4 ⟨rfl, h4⟩
    go_wp2_with fail
    refine (law_awake _).mono ?_; rintro e w' ⟨rfl, rfl⟩
    go_wp2_with fail
    go_ret
    exact ⟨rfl, ((h1.trans h2).trans h3).trans h4⟩
  · have d4 := beq_t h5
    have d5 := beq_f h6
    clear cs ht hs C4 h2 hz hl hzs h4 hx hx0 hy hy0 hp hL hd hz1 hl1 hs1 hz2 hl2 hs2 C5 C6 C7 h5 h6
    go_enter Try.func6, Try.ntmps6
    go_wp2_with fail
    refine (CS.out _).mono ?_; rintro e w' ⟨rfl, rfl⟩
    go_wp2_with fail
    refine (D4.out _).mono ?_; rintro e w1 ⟨rfl, h1⟩
    go_wp2_with fail
    refine (D5.out _).mono ?_; rintro e w2 ⟨rfl, h2⟩
    go_wp2_with fail
    refine (D6.out _).mono ?_; rintro e w3 ⟨rfl, h3⟩
    go_wp2_with fail
    refine (D7.out _).mono ?_; rintro e w4 ⟨rfl, h4⟩
    go_wp2_with fail
    refine (law_awake _).mono ?_; rintro e w' ⟨rfl, rfl⟩
    go_wp2_with fail
    go_ret
    exact ⟨rfl, ((h1.trans h2).trans h3).trans h4⟩
end Go.Proofs.Ytcjlopnaakiccaa

