/-
  Contracts of the document's own answers to layer 2 (wire): the bytes of a number, the number of bytes, and the calls that are made of them.
-/
import Derived.Test.YtpckhcnlffddcaaBytesMem
import Derived.Test.YtpckhcnlffddcaaWireMath
import Derived.Lib.Walk
namespace Go.Proofs.Ytpckhcnlffddcaa
open Go.RowKit
theorem wire_at (D : ByteArray) (k : Nat) (h : k < D.size) : D.data.toList[k]? = some D[k] := by
  rw [Array.getElem?_toList]; exact Array.getElem?_eq_getElem h
theorem wire_byte (c : UInt8) : (c.toNat : Int) < 256 := by have := c.toNat_lt; omega
theorem num_take {s : ByteArray} {k : Nat} (h : k < s.size) : num (s.data.toList.take (k + 1)) = num (s.data.toList.take k) * 256 + s[k].toNat := by
  rw [List.take_add_one, wire_at s k h]; exact num_snoc _ _
theorem num_bound (l : List UInt8) (k : Nat) (hk : k ≤ 7) : num (l.take k) < 72057594037927936 := by
  have h := num_lt (l.take k)
  have h2 : (l.take k).length ≤ 7 := Nat.le_trans (List.length_take_le _ _) hk
  have h3 : 256 ^ (l.take k).length ≤ 256 ^ 7 := Nat.pow_le_pow_right (by omega) h2
  omega
/-- additiveref02.number, of at most eight bytes -/
theorem ref_number (s : ByteArray) (hs : s.size ≤ 8) (w : World) :
    Calls Try.prog 32 #[.string s] w fun e w' => e = .returned (.int .u64 (num s.data.toList : Int)) ∧ w = w' := by
  go_enter Try.func32, Try.ntmps32
  go_wp2_with fail
  go_loop [3, 4] (fun u i => ∃ (k : Nat) (v : Int), k ≤ s.size ∧ i = .int .i64 k ∧ u = .int .u64 v ∧ v = (num (s.data.toList.take k) : Int)) (fun _ i => s.size - (intOf i).toNat)
  case atStart => exact ⟨0, 0, by omega, rfl, rfl, rfl⟩
  case round =>
    obtain ⟨k, v, hk, rfl, rfl, hv⟩ := hrel
    by_cases hlt : k < s.size
    · have nb := num_bound s.data.toList k (by omega)
      have v0 : 0 ≤ v ∧ v < 72057594037927936 := by omega
      have x0 : 0 ≤ (s[k].toNat : Int) := by omega
      have x1 := wire_byte s[k]
      have kl : (k : Int) < s.size := by omega
      have N : Hid (v * 256 + (s[k].toNat : Int) = (num (s.data.toList.take (k + 1)) : Int)) := Lib.hid (by rw [num_take hlt, hv]; omega)
      clear hv nb
      go_wp2_with fail
      go_round
      case rel => exact ⟨k + 1, _, by omega, by go_num, rfl, N.out⟩
      case measure => simp [intOf]; omega
    · have e : k = s.size := by omega
      have N : Hid (v = (num s.data.toList : Int)) := Lib.hid (by rw [hv, List.take_of_length_le (by simp; omega)])
      clear hv
      go_wp2_with fail
      go_ret
      exact ⟨ret1 N.out, rfl⟩
/-- additiveref02.fits -/
theorem ref_fits (n : Int) (w : World) : Calls Try.prog 28 #[.int .i64 n] w fun e w' => e = .returned (.bool (decide (1 ≤ n ∧ n ≤ 8))) ∧ w = w' := by
  rcases (show n < 1 ∨ 8 < n ∨ (1 ≤ n ∧ n ≤ 8) by omega) with h | h | ⟨h1, h2⟩
  · have d := dle_f h
    have e : Hid (decide (1 ≤ n ∧ n ≤ 8) = false) := Lib.hid (decide_eq_false (by omega))
    rw [e.out]
    go_enter Try.func28, Try.ntmps28
    go_wp2_with fail
    go_ret
    exact ⟨rfl, rfl⟩
  · have d := dle_f h
    have d2 : decide (1 ≤ n) = true := dle_t (by omega)
    have e : Hid (decide (1 ≤ n ∧ n ≤ 8) = false) := Lib.hid (decide_eq_false (by omega))
    rw [e.out]
    go_enter Try.func28, Try.ntmps28
    go_wp2_with fail
    go_ret
    exact ⟨rfl, rfl⟩
  · have d := dle_t h1
    have d2 := dle_t h2
    have e : Hid (decide (1 ≤ n ∧ n ≤ 8) = true) := Lib.hid (decide_eq_true ⟨h1, h2⟩)
    rw [e.out]
    go_enter Try.func28, Try.ntmps28
    go_wp2_with fail
    go_ret
    exact ⟨rfl, rfl⟩
theorem set_rep (k : Nat) (c : UInt8) (t : List UInt8) : (List.replicate (k + 1) 0 ++ t).set k c = List.replicate k 0 ++ (c :: t) := by
  rw [List.replicate_succ', List.append_assoc, List.set_append_right _ _ (by simp)]
  simp
set_option maxRecDepth 100000 in
/-- additiveref02.bytes -/
theorem ref_bytes (u : Int) (n : Nat) (u0 : 0 ≤ u) (u1 : u ≤ 18446744073709551615) (hn : n ≤ 8) (w : World) :
    Calls Try.prog 29 #[.int .u64 u, .int .i64 n] w fun e w' => e = .returned (.string ⟨(enc u.toNat n).toArray⟩) ∧ Ext w w' := by
  obtain ⟨wm, hrun, own, ext, hlt⟩ := made w n (by omega)
  obtain ⟨T, hT⟩ : ∃ T, enc u.toNat n = T := ⟨_, rfl⟩
  rw [hT]
  have HT := Lib.hid hT; have EX := Lib.hid ext; have OW := Lib.hid own
  clear hT ext own
  obtain ⟨B, hB⟩ : ∃ B, w.heap.size = B := ⟨_, rfl⟩
  rw [hB] at hrun OW hlt
  have HB := Lib.hid hB; clear hB
  have nI : (n : Int) ≤ 8 := by omega
  go_enter Try.func29, Try.ntmps29
  go_wp2_with fail
  go_loopw [0, 6] (fun u i wr => ∃ (k : Nat) (v : Int) (t : List UInt8), u = .int .u64 v ∧ i = .int .i64 ((k : Int) - 1) ∧ k ≤ n ∧ 0 ≤ v ∧ v ≤ 18446744073709551615 ∧ enc v.toNat k ++ t = T ∧ Own wr B n (List.replicate k 0 ++ t) ∧ Ext w wr) (fun _ i _ => (intOf i + 1).toNat)
  case atStart => exact ⟨n, u, [], rfl, rfl, Nat.le_refl _, u0, u1, by rw [List.append_nil]; exact HT.out, by rw [List.append_nil]; exact OW.out, EX.out⟩
  case round =>
    obtain ⟨k, v, t, rfl, rfl, hk, v0, v1, hT, O, hx⟩ := hrel
    rcases (show k = 0 ∨ ∃ j, k = j + 1 by cases k with | zero => exact .inl rfl | succ j => exact .inr ⟨j, rfl⟩) with hk0 | ⟨j, hj⟩
    · subst hk0
      have hs := Own.string O
      have HT2 : Hid (List.replicate 0 0 ++ t = T) := Lib.hid hT
      clear hT hrun O HT
      go_wp2_with fail
      go_ret
      exact ⟨congrArg (fun l : List UInt8 => Ending.returned (Value.string ⟨l.toArray⟩)) HT2.out, hx⟩
    · subst hj
      obtain ⟨c1, c2⟩ := O.cell j (by omega)
      have hb : ((UInt8.ofNat (v.toNat % 256)).toNat : Int) = v % 256 := by rw [byte_toNat]; omega
      have st := O.store j (UInt8.ofNat (v.toNat % 256))
      rw [hb, set_rep] at st
      have en : enc (v / 256).toNat j ++ (UInt8.ofNat (v.toNat % 256) :: t) = T := by
        rw [← hT, enc, List.append_assoc, show (v / 256).toNat = v.toNat / 256 by omega]; rfl
      have bx : Ext w (wr.setCell ⟨B, j, none⟩ (.int .u8 (v % 256))) := Below.setCell hx (by rw [HB.out]; exact Nat.le_refl _) _
      have ST := Lib.hid st; have EN := Lib.hid en; have BX := Lib.hid bx
      have ji : ((j + 1 : Nat) : Int) - 1 = j := by omega
      have jn : (j : Int) < n := by omega
      have jn2 : j < n := by omega
      clear st en bx hT hb hrun O HT
      go_wp2_with fail
      go_roundw
      case rel => exact ⟨j, _, _, rfl, rfl, by omega, by omega, by omega, EN.out, ST.out, BX.out⟩
      case measure => simp [intOf] <;> omega
/-- An ending with a string and an error number. -/
def ResS (p : List UInt8 × Int) : Ending := .returned (.tuple #[.string ⟨p.1.toArray⟩, .int .i64 p.2])
theorem resS_of {p : List UInt8 × Int} {l : List UInt8} {y : Int} (h : p = (l, y)) : Ending.returned (.tuple #[.string ⟨l.toArray⟩, .int .i64 y]) = ResS p := by rw [h]; rfl
/-- What Uint answers. -/
def uintS (n w : Int) : List UInt8 × Int :=
  if 1 ≤ w ∧ w ≤ 8 then (if n < 0 ∨ 256 ^ w.toNat ≤ n then ([], 3) else (enc n.toNat w.toNat, 0)) else ([], 1)
/-- What Int answers. -/
def intS (n w : Int) : List UInt8 × Int :=
  if 1 ≤ w ∧ w ≤ 8 then (if n < -(256 ^ w.toNat / 2) ∨ 256 ^ w.toNat / 2 ≤ n then ([], 3) else (enc (n % 18446744073709551616).toNat w.toNat, 0)) else ([], 1)
theorem uintS_arg {n w : Int} (h : ¬ (1 ≤ w ∧ w ≤ 8)) : uintS n w = ([], 1) := if_neg h
theorem intS_arg {n w : Int} (h : ¬ (1 ≤ w ∧ w ≤ 8)) : intS n w = ([], 1) := if_neg h
theorem uintS_over {n w : Int} (h : 1 ≤ w ∧ w ≤ 8) (h2 : n < 0 ∨ 256 ^ w.toNat ≤ n) : uintS n w = ([], 3) := by unfold uintS; rw [if_pos h, if_pos h2]
theorem intS_over {n w : Int} (h : 1 ≤ w ∧ w ≤ 8) (h2 : n < -(256 ^ w.toNat / 2) ∨ 256 ^ w.toNat / 2 ≤ n) : intS n w = ([], 3) := by unfold intS; rw [if_pos h, if_pos h2]
theorem uintS_ok {n w : Int} (h : 1 ≤ w ∧ w ≤ 8) (h2 : ¬ (n < 0 ∨ 256 ^ w.toNat ≤ n)) : uintS n w = (enc n.toNat w.toNat, 0) := by unfold uintS; rw [if_pos h, if_neg h2]
theorem intS_ok {n w : Int} (h : 1 ≤ w ∧ w ≤ 8) (h2 : ¬ (n < -(256 ^ w.toNat / 2) ∨ 256 ^ w.toNat / 2 ≤ n)) : intS n w = (enc (n % 18446744073709551616).toNat w.toNat, 0) := by unfold intS; rw [if_pos h, if_neg h2]
theorem ref_fits_t (n : Int) (h1 : 1 ≤ n) (h2 : n ≤ 8) (w : World) : Calls Try.prog 28 #[.int .i64 n] w fun e w' => e = .returned (.bool true) ∧ w = w' := by
  have c := ref_fits n w
  rw [decide_eq_true ⟨h1, h2⟩] at c; exact c
theorem ref_fits_f (n : Int) (h : ¬ (1 ≤ n ∧ n ≤ 8)) (w : World) : Calls Try.prog 28 #[.int .i64 n] w fun e w' => e = .returned (.bool false) ∧ w = w' := by
  have c := ref_fits n w
  rw [decide_eq_false h] at c; exact c
set_option maxHeartbeats 1000000 in
/-- additiveref02.Uint -/
theorem ref_Uint (n w : Int) (n0 : -9223372036854775808 ≤ n) (n1 : n ≤ 9223372036854775807) (W : World) :
    Calls Try.prog 12 #[.int .i64 n, .int .i64 w] W fun e W' => e = ResS (uintS n w) ∧ Ext W W' := by
  by_cases hw : 1 ≤ w ∧ w ≤ 8
  case neg =>
    have Z := Lib.hid (uintS_arg (n := n) hw)
    have C := Lib.hid (ref_fits_f w hw W)
    clear hw
    go_enter Try.func12, Try.ntmps12
    go_wp2_with fail
    refine C.out.mono ?_; rintro e w' ⟨rfl, rfl⟩
    go_wp2_with fail
    go_ret2
    exact ⟨resS_of Z.out, Ext.refl _⟩
  have C := Lib.hid (ref_fits_t w hw.1 hw.2 W)
  by_cases hk : w = 1
  · subst hk
    have el : (256 : Int) ^ (1 : Int).toNat = 256 := by decide
    by_cases h1 : n < 0
    · have Z := Lib.hid (uintS_over (w := 1) (by omega) (.inl h1))
      have d1 := dlt_t h1
      clear el hw
      go_enter Try.func12, Try.ntmps12
      go_wp2_with fail
      refine C.out.mono ?_; rintro e w' ⟨rfl, rfl⟩
      go_wp2_with fail
      go_ret2
      exact ⟨resS_of Z.out, Ext.refl _⟩
    have d1 : decide (n < 0) = false := dlt_f (by omega)
    have n2 : 0 ≤ n := by omega
    by_cases h2 : 256 ≤ n
    · have Z := Lib.hid (uintS_over (n := n) (w := 1) (by omega) (.inr (by rw [el]; exact h2)))
      have d2 := dle_t h2
      clear el hw h1
      go_enter Try.func12, Try.ntmps12
      go_wp2_with fail
      refine C.out.mono ?_; rintro e w' ⟨rfl, rfl⟩
      go_wp2_with fail
      go_ret2
      exact ⟨resS_of Z.out, Ext.refl _⟩
    have d2 : decide (256 ≤ n) = false := dle_f (by omega)
    have Z := Lib.hid (uintS_ok (n := n) (w := 1) (by omega) (by rw [el]; omega))
    have B := Lib.hid (ref_bytes n 1 n2 (by omega) (by omega) W)
    clear el hw h1 h2
    go_enter Try.func12, Try.ntmps12
    go_wp2_with fail
    refine C.out.mono ?_; rintro e w' ⟨rfl, rfl⟩
    go_wp2_with fail
    refine B.out.mono ?_; rintro e w1 ⟨rfl, h⟩
    go_wp2_with fail
    go_ret2
    exact ⟨resS_of Z.out, h⟩
  by_cases hk : w = 2
  · subst hk
    have el : (256 : Int) ^ (2 : Int).toNat = 65536 := by decide
    by_cases h1 : n < 0
    · have Z := Lib.hid (uintS_over (w := 2) (by omega) (.inl h1))
      have d1 := dlt_t h1
      clear el hw
      go_enter Try.func12, Try.ntmps12
      go_wp2_with fail
      refine C.out.mono ?_; rintro e w' ⟨rfl, rfl⟩
      go_wp2_with fail
      go_ret2
      exact ⟨resS_of Z.out, Ext.refl _⟩
    have d1 : decide (n < 0) = false := dlt_f (by omega)
    have n2 : 0 ≤ n := by omega
    by_cases h2 : 65536 ≤ n
    · have Z := Lib.hid (uintS_over (n := n) (w := 2) (by omega) (.inr (by rw [el]; exact h2)))
      have d2 := dle_t h2
      clear el hw h1
      go_enter Try.func12, Try.ntmps12
      go_wp2_with fail
      refine C.out.mono ?_; rintro e w' ⟨rfl, rfl⟩
      go_wp2_with fail
      go_ret2
      exact ⟨resS_of Z.out, Ext.refl _⟩
    have d2 : decide (65536 ≤ n) = false := dle_f (by omega)
    have Z := Lib.hid (uintS_ok (n := n) (w := 2) (by omega) (by rw [el]; omega))
    have B := Lib.hid (ref_bytes n 2 n2 (by omega) (by omega) W)
    clear el hw h1 h2
    go_enter Try.func12, Try.ntmps12
    go_wp2_with fail
    refine C.out.mono ?_; rintro e w' ⟨rfl, rfl⟩
    go_wp2_with fail
    refine B.out.mono ?_; rintro e w1 ⟨rfl, h⟩
    go_wp2_with fail
    go_ret2
    exact ⟨resS_of Z.out, h⟩
  by_cases hk : w = 3
  · subst hk
    have el : (256 : Int) ^ (3 : Int).toNat = 16777216 := by decide
    by_cases h1 : n < 0
    · have Z := Lib.hid (uintS_over (w := 3) (by omega) (.inl h1))
      have d1 := dlt_t h1
      clear el hw
      go_enter Try.func12, Try.ntmps12
      go_wp2_with fail
      refine C.out.mono ?_; rintro e w' ⟨rfl, rfl⟩
      go_wp2_with fail
      go_ret2
      exact ⟨resS_of Z.out, Ext.refl _⟩
    have d1 : decide (n < 0) = false := dlt_f (by omega)
    have n2 : 0 ≤ n := by omega
    by_cases h2 : 16777216 ≤ n
    · have Z := Lib.hid (uintS_over (n := n) (w := 3) (by omega) (.inr (by rw [el]; exact h2)))
      have d2 := dle_t h2
      clear el hw h1
      go_enter Try.func12, Try.ntmps12
      go_wp2_with fail
      refine C.out.mono ?_; rintro e w' ⟨rfl, rfl⟩
      go_wp2_with fail
      go_ret2
      exact ⟨resS_of Z.out, Ext.refl _⟩
    have d2 : decide (16777216 ≤ n) = false := dle_f (by omega)
    have Z := Lib.hid (uintS_ok (n := n) (w := 3) (by omega) (by rw [el]; omega))
    have B := Lib.hid (ref_bytes n 3 n2 (by omega) (by omega) W)
    clear el hw h1 h2
    go_enter Try.func12, Try.ntmps12
    go_wp2_with fail
    refine C.out.mono ?_; rintro e w' ⟨rfl, rfl⟩
    go_wp2_with fail
    refine B.out.mono ?_; rintro e w1 ⟨rfl, h⟩
    go_wp2_with fail
    go_ret2
    exact ⟨resS_of Z.out, h⟩
  by_cases hk : w = 4
  · subst hk
    have el : (256 : Int) ^ (4 : Int).toNat = 4294967296 := by decide
    by_cases h1 : n < 0
    · have Z := Lib.hid (uintS_over (w := 4) (by omega) (.inl h1))
      have d1 := dlt_t h1
      clear el hw
      go_enter Try.func12, Try.ntmps12
      go_wp2_with fail
      refine C.out.mono ?_; rintro e w' ⟨rfl, rfl⟩
      go_wp2_with fail
      go_ret2
      exact ⟨resS_of Z.out, Ext.refl _⟩
    have d1 : decide (n < 0) = false := dlt_f (by omega)
    have n2 : 0 ≤ n := by omega
    by_cases h2 : 4294967296 ≤ n
    · have Z := Lib.hid (uintS_over (n := n) (w := 4) (by omega) (.inr (by rw [el]; exact h2)))
      have d2 := dle_t h2
      clear el hw h1
      go_enter Try.func12, Try.ntmps12
      go_wp2_with fail
      refine C.out.mono ?_; rintro e w' ⟨rfl, rfl⟩
      go_wp2_with fail
      go_ret2
      exact ⟨resS_of Z.out, Ext.refl _⟩
    have d2 : decide (4294967296 ≤ n) = false := dle_f (by omega)
    have Z := Lib.hid (uintS_ok (n := n) (w := 4) (by omega) (by rw [el]; omega))
    have B := Lib.hid (ref_bytes n 4 n2 (by omega) (by omega) W)
    clear el hw h1 h2
    go_enter Try.func12, Try.ntmps12
    go_wp2_with fail
    refine C.out.mono ?_; rintro e w' ⟨rfl, rfl⟩
    go_wp2_with fail
    refine B.out.mono ?_; rintro e w1 ⟨rfl, h⟩
    go_wp2_with fail
    go_ret2
    exact ⟨resS_of Z.out, h⟩
  by_cases hk : w = 5
  · subst hk
    have el : (256 : Int) ^ (5 : Int).toNat = 1099511627776 := by decide
    by_cases h1 : n < 0
    · have Z := Lib.hid (uintS_over (w := 5) (by omega) (.inl h1))
      have d1 := dlt_t h1
      clear el hw
      go_enter Try.func12, Try.ntmps12
      go_wp2_with fail
      refine C.out.mono ?_; rintro e w' ⟨rfl, rfl⟩
      go_wp2_with fail
      go_ret2
      exact ⟨resS_of Z.out, Ext.refl _⟩
    have d1 : decide (n < 0) = false := dlt_f (by omega)
    have n2 : 0 ≤ n := by omega
    by_cases h2 : 1099511627776 ≤ n
    · have Z := Lib.hid (uintS_over (n := n) (w := 5) (by omega) (.inr (by rw [el]; exact h2)))
      have d2 := dle_t h2
      clear el hw h1
      go_enter Try.func12, Try.ntmps12
      go_wp2_with fail
      refine C.out.mono ?_; rintro e w' ⟨rfl, rfl⟩
      go_wp2_with fail
      go_ret2
      exact ⟨resS_of Z.out, Ext.refl _⟩
    have d2 : decide (1099511627776 ≤ n) = false := dle_f (by omega)
    have Z := Lib.hid (uintS_ok (n := n) (w := 5) (by omega) (by rw [el]; omega))
    have B := Lib.hid (ref_bytes n 5 n2 (by omega) (by omega) W)
    clear el hw h1 h2
    go_enter Try.func12, Try.ntmps12
    go_wp2_with fail
    refine C.out.mono ?_; rintro e w' ⟨rfl, rfl⟩
    go_wp2_with fail
    refine B.out.mono ?_; rintro e w1 ⟨rfl, h⟩
    go_wp2_with fail
    go_ret2
    exact ⟨resS_of Z.out, h⟩
  by_cases hk : w = 6
  · subst hk
    have el : (256 : Int) ^ (6 : Int).toNat = 281474976710656 := by decide
    by_cases h1 : n < 0
    · have Z := Lib.hid (uintS_over (w := 6) (by omega) (.inl h1))
      have d1 := dlt_t h1
      clear el hw
      go_enter Try.func12, Try.ntmps12
      go_wp2_with fail
      refine C.out.mono ?_; rintro e w' ⟨rfl, rfl⟩
      go_wp2_with fail
      go_ret2
      exact ⟨resS_of Z.out, Ext.refl _⟩
    have d1 : decide (n < 0) = false := dlt_f (by omega)
    have n2 : 0 ≤ n := by omega
    by_cases h2 : 281474976710656 ≤ n
    · have Z := Lib.hid (uintS_over (n := n) (w := 6) (by omega) (.inr (by rw [el]; exact h2)))
      have d2 := dle_t h2
      clear el hw h1
      go_enter Try.func12, Try.ntmps12
      go_wp2_with fail
      refine C.out.mono ?_; rintro e w' ⟨rfl, rfl⟩
      go_wp2_with fail
      go_ret2
      exact ⟨resS_of Z.out, Ext.refl _⟩
    have d2 : decide (281474976710656 ≤ n) = false := dle_f (by omega)
    have Z := Lib.hid (uintS_ok (n := n) (w := 6) (by omega) (by rw [el]; omega))
    have B := Lib.hid (ref_bytes n 6 n2 (by omega) (by omega) W)
    clear el hw h1 h2
    go_enter Try.func12, Try.ntmps12
    go_wp2_with fail
    refine C.out.mono ?_; rintro e w' ⟨rfl, rfl⟩
    go_wp2_with fail
    refine B.out.mono ?_; rintro e w1 ⟨rfl, h⟩
    go_wp2_with fail
    go_ret2
    exact ⟨resS_of Z.out, h⟩
  by_cases hk : w = 7
  · subst hk
    have el : (256 : Int) ^ (7 : Int).toNat = 72057594037927936 := by decide
    by_cases h1 : n < 0
    · have Z := Lib.hid (uintS_over (w := 7) (by omega) (.inl h1))
      have d1 := dlt_t h1
      clear el hw
      go_enter Try.func12, Try.ntmps12
      go_wp2_with fail
      refine C.out.mono ?_; rintro e w' ⟨rfl, rfl⟩
      go_wp2_with fail
      go_ret2
      exact ⟨resS_of Z.out, Ext.refl _⟩
    have d1 : decide (n < 0) = false := dlt_f (by omega)
    have n2 : 0 ≤ n := by omega
    by_cases h2 : 72057594037927936 ≤ n
    · have Z := Lib.hid (uintS_over (n := n) (w := 7) (by omega) (.inr (by rw [el]; exact h2)))
      have d2 := dle_t h2
      clear el hw h1
      go_enter Try.func12, Try.ntmps12
      go_wp2_with fail
      refine C.out.mono ?_; rintro e w' ⟨rfl, rfl⟩
      go_wp2_with fail
      go_ret2
      exact ⟨resS_of Z.out, Ext.refl _⟩
    have d2 : decide (72057594037927936 ≤ n) = false := dle_f (by omega)
    have Z := Lib.hid (uintS_ok (n := n) (w := 7) (by omega) (by rw [el]; omega))
    have B := Lib.hid (ref_bytes n 7 n2 (by omega) (by omega) W)
    clear el hw h1 h2
    go_enter Try.func12, Try.ntmps12
    go_wp2_with fail
    refine C.out.mono ?_; rintro e w' ⟨rfl, rfl⟩
    go_wp2_with fail
    refine B.out.mono ?_; rintro e w1 ⟨rfl, h⟩
    go_wp2_with fail
    go_ret2
    exact ⟨resS_of Z.out, h⟩
  by_cases hk : w = 8
  · subst hk
    have el : (256 : Int) ^ (8 : Int).toNat = 18446744073709551616 := by decide
    by_cases h1 : n < 0
    · have Z := Lib.hid (uintS_over (w := 8) (by omega) (.inl h1))
      have d1 := dlt_t h1
      clear el hw
      go_enter Try.func12, Try.ntmps12
      go_wp2_with fail
      refine C.out.mono ?_; rintro e w' ⟨rfl, rfl⟩
      go_wp2_with fail
      go_ret2
      exact ⟨resS_of Z.out, Ext.refl _⟩
    have d1 : decide (n < 0) = false := dlt_f (by omega)
    have n2 : 0 ≤ n := by omega
    have Z := Lib.hid (uintS_ok (n := n) (w := 8) (by omega) (by rw [el]; omega))
    have B := Lib.hid (ref_bytes n 8 n2 (by omega) (by omega) W)
    clear el hw h1
    go_enter Try.func12, Try.ntmps12
    go_wp2_with fail
    refine C.out.mono ?_; rintro e w' ⟨rfl, rfl⟩
    go_wp2_with fail
    refine B.out.mono ?_; rintro e w1 ⟨rfl, h⟩
    go_wp2_with fail
    go_ret2
    exact ⟨resS_of Z.out, h⟩
  exact absurd hw (by omega)
set_option maxHeartbeats 1000000 in
/-- additiveref02.Int -/
theorem ref_Int (n w : Int) (n0 : -9223372036854775808 ≤ n) (n1 : n ≤ 9223372036854775807) (W : World) :
    Calls Try.prog 15 #[.int .i64 n, .int .i64 w] W fun e W' => e = ResS (intS n w) ∧ Ext W W' := by
  by_cases hw : 1 ≤ w ∧ w ≤ 8
  case neg =>
    have Z := Lib.hid (intS_arg (n := n) hw)
    have C := Lib.hid (ref_fits_f w hw W)
    clear hw
    go_enter Try.func15, Try.ntmps15
    go_wp2_with fail
    refine C.out.mono ?_; rintro e w' ⟨rfl, rfl⟩
    go_wp2_with fail
    go_ret2
    exact ⟨resS_of Z.out, Ext.refl _⟩
  have C := Lib.hid (ref_fits_t w hw.1 hw.2 W)
  by_cases hk : w = 1
  · subst hk
    have el : (256 : Int) ^ (1 : Int).toNat / 2 = 128 := by decide
    by_cases h1 : n < -128
    · have Z := Lib.hid (intS_over (w := 1) (by omega) (.inl (by rw [el]; exact h1)))
      have d1 := dlt_t h1
      clear el hw
      go_enter Try.func15, Try.ntmps15
      go_wp2_with fail
      refine C.out.mono ?_; rintro e w' ⟨rfl, rfl⟩
      go_wp2_with fail
      go_ret2
      exact ⟨resS_of Z.out, Ext.refl _⟩
    have d1 : decide (n < -128) = false := dlt_f (by omega)
    by_cases h2 : 128 ≤ n
    · have Z := Lib.hid (intS_over (n := n) (w := 1) (by omega) (.inr (by rw [el]; exact h2)))
      have d2 := dle_t h2
      clear el hw h1
      go_enter Try.func15, Try.ntmps15
      go_wp2_with fail
      refine C.out.mono ?_; rintro e w' ⟨rfl, rfl⟩
      go_wp2_with fail
      go_ret2
      exact ⟨resS_of Z.out, Ext.refl _⟩
    have d2 : decide (128 ≤ n) = false := dle_f (by omega)
    have Z := Lib.hid (intS_ok (n := n) (w := 1) (by omega) (by rw [el]; omega))
    have B := Lib.hid (ref_bytes (n % 18446744073709551616) 1 (by omega) (by omega) (by omega) W)
    have wu : IntKind.u64.wrap n = n % 18446744073709551616 := IntKind.wrap_u64 n
    clear el hw h1 h2
    go_enter Try.func15, Try.ntmps15
    go_wp2_with fail
    refine C.out.mono ?_; rintro e w' ⟨rfl, rfl⟩
    go_wp2_with fail
    refine B.out.mono ?_; rintro e w1 ⟨rfl, h⟩
    go_wp2_with fail
    go_ret2
    exact ⟨resS_of Z.out, h⟩
  by_cases hk : w = 2
  · subst hk
    have el : (256 : Int) ^ (2 : Int).toNat / 2 = 32768 := by decide
    by_cases h1 : n < -32768
    · have Z := Lib.hid (intS_over (w := 2) (by omega) (.inl (by rw [el]; exact h1)))
      have d1 := dlt_t h1
      clear el hw
      go_enter Try.func15, Try.ntmps15
      go_wp2_with fail
      refine C.out.mono ?_; rintro e w' ⟨rfl, rfl⟩
      go_wp2_with fail
      go_ret2
      exact ⟨resS_of Z.out, Ext.refl _⟩
    have d1 : decide (n < -32768) = false := dlt_f (by omega)
    by_cases h2 : 32768 ≤ n
    · have Z := Lib.hid (intS_over (n := n) (w := 2) (by omega) (.inr (by rw [el]; exact h2)))
      have d2 := dle_t h2
      clear el hw h1
      go_enter Try.func15, Try.ntmps15
      go_wp2_with fail
      refine C.out.mono ?_; rintro e w' ⟨rfl, rfl⟩
      go_wp2_with fail
      go_ret2
      exact ⟨resS_of Z.out, Ext.refl _⟩
    have d2 : decide (32768 ≤ n) = false := dle_f (by omega)
    have Z := Lib.hid (intS_ok (n := n) (w := 2) (by omega) (by rw [el]; omega))
    have B := Lib.hid (ref_bytes (n % 18446744073709551616) 2 (by omega) (by omega) (by omega) W)
    have wu : IntKind.u64.wrap n = n % 18446744073709551616 := IntKind.wrap_u64 n
    clear el hw h1 h2
    go_enter Try.func15, Try.ntmps15
    go_wp2_with fail
    refine C.out.mono ?_; rintro e w' ⟨rfl, rfl⟩
    go_wp2_with fail
    refine B.out.mono ?_; rintro e w1 ⟨rfl, h⟩
    go_wp2_with fail
    go_ret2
    exact ⟨resS_of Z.out, h⟩
  by_cases hk : w = 3
  · subst hk
    have el : (256 : Int) ^ (3 : Int).toNat / 2 = 8388608 := by decide
    by_cases h1 : n < -8388608
    · have Z := Lib.hid (intS_over (w := 3) (by omega) (.inl (by rw [el]; exact h1)))
      have d1 := dlt_t h1
      clear el hw
      go_enter Try.func15, Try.ntmps15
      go_wp2_with fail
      refine C.out.mono ?_; rintro e w' ⟨rfl, rfl⟩
      go_wp2_with fail
      go_ret2
      exact ⟨resS_of Z.out, Ext.refl _⟩
    have d1 : decide (n < -8388608) = false := dlt_f (by omega)
    by_cases h2 : 8388608 ≤ n
    · have Z := Lib.hid (intS_over (n := n) (w := 3) (by omega) (.inr (by rw [el]; exact h2)))
      have d2 := dle_t h2
      clear el hw h1
      go_enter Try.func15, Try.ntmps15
      go_wp2_with fail
      refine C.out.mono ?_; rintro e w' ⟨rfl, rfl⟩
      go_wp2_with fail
      go_ret2
      exact ⟨resS_of Z.out, Ext.refl _⟩
    have d2 : decide (8388608 ≤ n) = false := dle_f (by omega)
    have Z := Lib.hid (intS_ok (n := n) (w := 3) (by omega) (by rw [el]; omega))
    have B := Lib.hid (ref_bytes (n % 18446744073709551616) 3 (by omega) (by omega) (by omega) W)
    have wu : IntKind.u64.wrap n = n % 18446744073709551616 := IntKind.wrap_u64 n
    clear el hw h1 h2
    go_enter Try.func15, Try.ntmps15
    go_wp2_with fail
    refine C.out.mono ?_; rintro e w' ⟨rfl, rfl⟩
    go_wp2_with fail
    refine B.out.mono ?_; rintro e w1 ⟨rfl, h⟩
    go_wp2_with fail
    go_ret2
    exact ⟨resS_of Z.out, h⟩
  by_cases hk : w = 4
  · subst hk
    have el : (256 : Int) ^ (4 : Int).toNat / 2 = 2147483648 := by decide
    by_cases h1 : n < -2147483648
    · have Z := Lib.hid (intS_over (w := 4) (by omega) (.inl (by rw [el]; exact h1)))
      have d1 := dlt_t h1
      clear el hw
      go_enter Try.func15, Try.ntmps15
      go_wp2_with fail
      refine C.out.mono ?_; rintro e w' ⟨rfl, rfl⟩
      go_wp2_with fail
      go_ret2
      exact ⟨resS_of Z.out, Ext.refl _⟩
    have d1 : decide (n < -2147483648) = false := dlt_f (by omega)
    by_cases h2 : 2147483648 ≤ n
    · have Z := Lib.hid (intS_over (n := n) (w := 4) (by omega) (.inr (by rw [el]; exact h2)))
      have d2 := dle_t h2
      clear el hw h1
      go_enter Try.func15, Try.ntmps15
      go_wp2_with fail
      refine C.out.mono ?_; rintro e w' ⟨rfl, rfl⟩
      go_wp2_with fail
      go_ret2
      exact ⟨resS_of Z.out, Ext.refl _⟩
    have d2 : decide (2147483648 ≤ n) = false := dle_f (by omega)
    have Z := Lib.hid (intS_ok (n := n) (w := 4) (by omega) (by rw [el]; omega))
    have B := Lib.hid (ref_bytes (n % 18446744073709551616) 4 (by omega) (by omega) (by omega) W)
    have wu : IntKind.u64.wrap n = n % 18446744073709551616 := IntKind.wrap_u64 n
    clear el hw h1 h2
    go_enter Try.func15, Try.ntmps15
    go_wp2_with fail
    refine C.out.mono ?_; rintro e w' ⟨rfl, rfl⟩
    go_wp2_with fail
    refine B.out.mono ?_; rintro e w1 ⟨rfl, h⟩
    go_wp2_with fail
    go_ret2
    exact ⟨resS_of Z.out, h⟩
  by_cases hk : w = 5
  · subst hk
    have el : (256 : Int) ^ (5 : Int).toNat / 2 = 549755813888 := by decide
    by_cases h1 : n < -549755813888
    · have Z := Lib.hid (intS_over (w := 5) (by omega) (.inl (by rw [el]; exact h1)))
      have d1 := dlt_t h1
      clear el hw
      go_enter Try.func15, Try.ntmps15
      go_wp2_with fail
      refine C.out.mono ?_; rintro e w' ⟨rfl, rfl⟩
      go_wp2_with fail
      go_ret2
      exact ⟨resS_of Z.out, Ext.refl _⟩
    have d1 : decide (n < -549755813888) = false := dlt_f (by omega)
    by_cases h2 : 549755813888 ≤ n
    · have Z := Lib.hid (intS_over (n := n) (w := 5) (by omega) (.inr (by rw [el]; exact h2)))
      have d2 := dle_t h2
      clear el hw h1
      go_enter Try.func15, Try.ntmps15
      go_wp2_with fail
      refine C.out.mono ?_; rintro e w' ⟨rfl, rfl⟩
      go_wp2_with fail
      go_ret2
      exact ⟨resS_of Z.out, Ext.refl _⟩
    have d2 : decide (549755813888 ≤ n) = false := dle_f (by omega)
    have Z := Lib.hid (intS_ok (n := n) (w := 5) (by omega) (by rw [el]; omega))
    have B := Lib.hid (ref_bytes (n % 18446744073709551616) 5 (by omega) (by omega) (by omega) W)
    have wu : IntKind.u64.wrap n = n % 18446744073709551616 := IntKind.wrap_u64 n
    clear el hw h1 h2
    go_enter Try.func15, Try.ntmps15
    go_wp2_with fail
    refine C.out.mono ?_; rintro e w' ⟨rfl, rfl⟩
    go_wp2_with fail
    refine B.out.mono ?_; rintro e w1 ⟨rfl, h⟩
    go_wp2_with fail
    go_ret2
    exact ⟨resS_of Z.out, h⟩
  by_cases hk : w = 6
  · subst hk
    have el : (256 : Int) ^ (6 : Int).toNat / 2 = 140737488355328 := by decide
    by_cases h1 : n < -140737488355328
    · have Z := Lib.hid (intS_over (w := 6) (by omega) (.inl (by rw [el]; exact h1)))
      have d1 := dlt_t h1
      clear el hw
      go_enter Try.func15, Try.ntmps15
      go_wp2_with fail
      refine C.out.mono ?_; rintro e w' ⟨rfl, rfl⟩
      go_wp2_with fail
      go_ret2
      exact ⟨resS_of Z.out, Ext.refl _⟩
    have d1 : decide (n < -140737488355328) = false := dlt_f (by omega)
    by_cases h2 : 140737488355328 ≤ n
    · have Z := Lib.hid (intS_over (n := n) (w := 6) (by omega) (.inr (by rw [el]; exact h2)))
      have d2 := dle_t h2
      clear el hw h1
      go_enter Try.func15, Try.ntmps15
      go_wp2_with fail
      refine C.out.mono ?_; rintro e w' ⟨rfl, rfl⟩
      go_wp2_with fail
      go_ret2
      exact ⟨resS_of Z.out, Ext.refl _⟩
    have d2 : decide (140737488355328 ≤ n) = false := dle_f (by omega)
    have Z := Lib.hid (intS_ok (n := n) (w := 6) (by omega) (by rw [el]; omega))
    have B := Lib.hid (ref_bytes (n % 18446744073709551616) 6 (by omega) (by omega) (by omega) W)
    have wu : IntKind.u64.wrap n = n % 18446744073709551616 := IntKind.wrap_u64 n
    clear el hw h1 h2
    go_enter Try.func15, Try.ntmps15
    go_wp2_with fail
    refine C.out.mono ?_; rintro e w' ⟨rfl, rfl⟩
    go_wp2_with fail
    refine B.out.mono ?_; rintro e w1 ⟨rfl, h⟩
    go_wp2_with fail
    go_ret2
    exact ⟨resS_of Z.out, h⟩
  by_cases hk : w = 7
  · subst hk
    have el : (256 : Int) ^ (7 : Int).toNat / 2 = 36028797018963968 := by decide
    by_cases h1 : n < -36028797018963968
    · have Z := Lib.hid (intS_over (w := 7) (by omega) (.inl (by rw [el]; exact h1)))
      have d1 := dlt_t h1
      clear el hw
      go_enter Try.func15, Try.ntmps15
      go_wp2_with fail
      refine C.out.mono ?_; rintro e w' ⟨rfl, rfl⟩
      go_wp2_with fail
      go_ret2
      exact ⟨resS_of Z.out, Ext.refl _⟩
    have d1 : decide (n < -36028797018963968) = false := dlt_f (by omega)
    by_cases h2 : 36028797018963968 ≤ n
    · have Z := Lib.hid (intS_over (n := n) (w := 7) (by omega) (.inr (by rw [el]; exact h2)))
      have d2 := dle_t h2
      clear el hw h1
      go_enter Try.func15, Try.ntmps15
      go_wp2_with fail
      refine C.out.mono ?_; rintro e w' ⟨rfl, rfl⟩
      go_wp2_with fail
      go_ret2
      exact ⟨resS_of Z.out, Ext.refl _⟩
    have d2 : decide (36028797018963968 ≤ n) = false := dle_f (by omega)
    have Z := Lib.hid (intS_ok (n := n) (w := 7) (by omega) (by rw [el]; omega))
    have B := Lib.hid (ref_bytes (n % 18446744073709551616) 7 (by omega) (by omega) (by omega) W)
    have wu : IntKind.u64.wrap n = n % 18446744073709551616 := IntKind.wrap_u64 n
    clear el hw h1 h2
    go_enter Try.func15, Try.ntmps15
    go_wp2_with fail
    refine C.out.mono ?_; rintro e w' ⟨rfl, rfl⟩
    go_wp2_with fail
    refine B.out.mono ?_; rintro e w1 ⟨rfl, h⟩
    go_wp2_with fail
    go_ret2
    exact ⟨resS_of Z.out, h⟩
  by_cases hk : w = 8
  · subst hk
    have el : (256 : Int) ^ (8 : Int).toNat / 2 = 9223372036854775808 := by decide
    have Z := Lib.hid (intS_ok (n := n) (w := 8) (by omega) (by rw [el]; omega))
    have B := Lib.hid (ref_bytes (n % 18446744073709551616) 8 (by omega) (by omega) (by omega) W)
    have wu : IntKind.u64.wrap n = n % 18446744073709551616 := IntKind.wrap_u64 n
    clear el hw
    go_enter Try.func15, Try.ntmps15
    go_wp2_with fail
    refine C.out.mono ?_; rintro e w' ⟨rfl, rfl⟩
    go_wp2_with fail
    refine B.out.mono ?_; rintro e w1 ⟨rfl, h⟩
    go_wp2_with fail
    go_ret2
    exact ⟨resS_of Z.out, h⟩
  exact absurd hw (by omega)
end Go.Proofs.Ytpckhcnlffddcaa
