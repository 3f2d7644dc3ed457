/-
  Checksums and hashes, plainly: their values, the linearity of CRC16's step, and that no change of two neighboring bytes keeps it. No program is named here.
-/
import Derived.WalkKit
namespace Go.Proofs.Ytcjlopnaakiccaa
/-! ### Exclusive or -/
def xorN (l : List UInt8) : Nat := l.foldl (fun a c => a ^^^ c.toNat) 0
theorem xorN_snoc (l : List UInt8) (c : UInt8) : xorN (l ++ [c]) = xorN l ^^^ c.toNat := by simp [xorN, List.foldl_append]
theorem list_snoc {p : List UInt8 → Prop} (h0 : p []) (h : ∀ l c, p l → p (l ++ [c])) : ∀ l, p l := by
  intro l
  generalize hn : l.length = n
  induction n generalizing l with
  | zero => rw [List.eq_nil_of_length_eq_zero hn]; exact h0
  | succ n ih =>
    obtain ⟨r, c, rfl⟩ : ∃ r c, l = r ++ [c] := ⟨l.dropLast, l.getLast (fun e => by subst e; simp at hn), (List.dropLast_concat_getLast _).symm⟩
    exact h r c (ih r (by simpa using hn))
theorem xorN_lt (l : List UInt8) : xorN l < 256 := by
  induction l using list_snoc with
  | h0 => decide
  | h l c ih => rw [xorN_snoc]; exact Nat.xor_lt_two_pow (n := 8) ih c.toNat_lt
theorem xorN_append (l m : List UInt8) : xorN (l ++ m) = xorN l ^^^ xorN m := by
  induction m using list_snoc with
  | h0 => simp [xorN]
  | h m c ih => rw [← List.append_assoc, xorN_snoc, ih, xorN_snoc, Nat.xor_assoc]
/-! ### CRC16 -/
def bit16 (r : Nat) : Nat := if 32768 ≤ r then ((r - 32768) * 2) ^^^ 4129 else r * 2
theorem bit16_lt {r : Nat} (h : r < 65536) : bit16 r < 65536 := by
  unfold bit16; split
  · exact Nat.xor_lt_two_pow (n := 16) (by omega) (by omega)
  · omega
def bits16 : Nat → Nat → Nat
  | 0, r => r
  | k + 1, r => bit16 (bits16 k r)
theorem bits16_lt {k r : Nat} (h : r < 65536) : bits16 k r < 65536 := by
  induction k with
  | zero => exact h
  | succ k ih => exact bit16_lt ih
theorem bits16_add (j k r : Nat) : bits16 (j + k) r = bits16 j (bits16 k r) := by
  induction j with
  | zero => rw [Nat.zero_add]; rfl
  | succ j ih => rw [show j + 1 + k = (j + k) + 1 by omega]; show bit16 _ = bit16 _; rw [ih]
def byte16 (r : Nat) (c : UInt8) : Nat := bits16 8 (r ^^^ (c.toNat * 256))
theorem in16 {r : Nat} (h : r < 65536) (c : UInt8) : r ^^^ (c.toNat * 256) < 65536 := by
  have := c.toNat_lt
  exact Nat.xor_lt_two_pow (n := 16) h (by omega)
theorem byte16_lt {r : Nat} (h : r < 65536) (c : UInt8) : byte16 r c < 65536 := bits16_lt (in16 h c)
def crcN (l : List UInt8) : Nat := l.foldl byte16 65535
theorem crcN_snoc (l : List UInt8) (c : UInt8) : crcN (l ++ [c]) = byte16 (crcN l) c := by simp [crcN, List.foldl_append]
theorem crcN_lt (l : List UInt8) : crcN l < 65536 := by
  induction l using list_snoc with
  | h0 => decide
  | h l c ih => rw [crcN_snoc]; exact byte16_lt ih c
theorem bit16_eq {r : Nat} (h : r < 65536) : bit16 r = (r * 2 % 65536) ^^^ (if 32768 ≤ r then 4129 else 0) := by
  unfold bit16; split
  · rw [show r * 2 % 65536 = (r - 32768) * 2 by omega]
  · rw [show r * 2 % 65536 = r * 2 by omega, Nat.xor_zero]
theorem dbl_xor (x y : Nat) : (x ^^^ y) * 2 % 65536 = (x * 2 % 65536) ^^^ (y * 2 % 65536) := by
  have h := Nat.shiftLeft_xor_distrib (i := 1) (a := x) (b := y)
  simp only [Nat.shiftLeft_eq, Nat.pow_one] at h
  rw [h]; exact Nat.xor_mod_two_pow (n := 16)
theorem high_xor {x y : Nat} (hy : y < 32768) : 32768 ≤ x ^^^ y ↔ 32768 ≤ x := by
  have h := Nat.xor_div_two_pow (a := x) (b := y) (n := 15)
  rw [Nat.div_eq_of_lt (a := y) (b := 2 ^ 15) hy, Nat.xor_zero] at h
  omega
/-- A bit that is not the highest one passes the step doubled. -/
theorem bit16_xor {x y : Nat} (hx : x < 65536) (hy : y < 32768) : bit16 (x ^^^ y) = bit16 x ^^^ (y * 2) := by
  rw [bit16_eq hx, bit16_eq (Nat.xor_lt_two_pow (n := 16) hx (by omega)), dbl_xor, Nat.mod_eq_of_lt (a := y * 2) (b := 65536) (by omega)]
  by_cases c : 32768 ≤ x
  · rw [if_pos c, if_pos ((high_xor hy).2 c), Nat.xor_assoc, Nat.xor_assoc, Nat.xor_comm (y * 2)]
  · rw [if_neg c, if_neg (fun e => c ((high_xor hy).1 e)), Nat.xor_assoc, Nat.xor_assoc, Nat.xor_comm (y * 2)]
theorem bits16_xor {x y : Nat} (hx : x < 65536) (hy : y < 256) (k : Nat) (hk : k ≤ 8) : bits16 k (x ^^^ y) = bits16 k x ^^^ (y * 2 ^ k) := by
  induction k with
  | zero => simp [bits16]
  | succ k ih =>
    show bit16 (bits16 k (x ^^^ y)) = bit16 (bits16 k x) ^^^ _
    have h2 : y * 2 ^ k < 32768 := by
      have h3 : 2 ^ k ≤ 2 ^ 7 := Nat.pow_le_pow_right (by omega) (by omega)
      have h4 : y * 2 ^ k ≤ 255 * 2 ^ 7 := Nat.mul_le_mul (by omega) h3
      omega
    rw [ih (by omega), bit16_xor (bits16_lt hx) h2, Nat.pow_succ, Nat.mul_assoc]
theorem bit16_inj {x y : Nat} (hx : x < 65536) (hy : y < 65536) (h : bit16 x = bit16 y) : x = y := by
  have odd : ∀ z, bit16 z % 2 = 1 ↔ 32768 ≤ z := fun z => by
    unfold bit16; split
    · have := Nat.xor_mod_two_eq_one (a := (z - 32768) * 2) (b := 4129)
      constructor
      · intro _; assumption
      · intro _; rw [this]; omega
    · omega
  by_cases c : 32768 ≤ x
  · have c2 := (odd y).1 (h ▸ (odd x).2 c)
    unfold bit16 at h
    rw [if_pos c, if_pos c2] at h
    have h2 := congrArg (fun t => t ^^^ 4129) h
    simp only [Nat.xor_assoc, Nat.xor_self, Nat.xor_zero] at h2
    omega
  · have c2 : ¬ 32768 ≤ y := fun e => c ((odd x).1 (h ▸ (odd y).2 e))
    unfold bit16 at h
    rw [if_neg c, if_neg c2] at h
    omega
theorem bits16_inj {k x y : Nat} (hx : x < 65536) (hy : y < 65536) (h : bits16 k x = bits16 k y) : x = y := by
  induction k with
  | zero => exact h
  | succ k ih => exact ih (bit16_inj (bits16_lt hx) (bits16_lt hy) h)
theorem xor_cancel {a b c : Nat} (h : a ^^^ b = a ^^^ c) : b = c := by
  have h2 := congrArg (fun t => a ^^^ t) h
  simpa only [← Nat.xor_assoc, Nat.xor_self, Nat.zero_xor] using h2
theorem xor_cancel_r {a b c : Nat} (h : b ^^^ a = c ^^^ a) : b = c := xor_cancel (a := a) (by rw [Nat.xor_comm a b, Nat.xor_comm a c]; exact h)
theorem byte16_inj {x y : Nat} (hx : x < 65536) (hy : y < 65536) (c : UInt8) (h : byte16 x c = byte16 y c) : x = y := by
  unfold byte16 at h
  have h2 := bits16_inj (in16 hx c) (in16 hy c) h
  exact xor_cancel_r h2
theorem bits16_16 (z : Nat) : bits16 16 z = bits16 8 (bits16 8 z) := by
  have h := bits16_add 8 8 z
  simpa only [Nat.reduceAdd] using h
theorem join16 (a b : UInt8) : (a.toNat * 256) ^^^ b.toNat = a.toNat * 256 + b.toNat := by
  have hb := b.toNat_lt
  have h := Nat.two_pow_add_eq_or_of_lt (i := 8) (b := b.toNat) hb a.toNat
  have e : (a.toNat * 256) &&& b.toNat = 0 := by
    apply Nat.eq_of_testBit_eq
    intro i
    rw [Nat.testBit_and, Nat.zero_testBit]
    by_cases hi : i < 8
    · rw [show a.toNat * 256 = 2 ^ 8 * a.toNat by omega, Nat.testBit_two_pow_mul]
      simp; omega
    · rw [Nat.testBit_lt_two_pow (x := b.toNat) (i := i) (Nat.lt_of_lt_of_le hb (Nat.pow_le_pow_right (by omega) (by omega)))]
      simp
  have x : (a.toNat * 256) ^^^ b.toNat = (a.toNat * 256) ||| b.toNat := by
    apply Nat.eq_of_testBit_eq
    intro i
    have ei := congrArg (fun t => t.testBit i) e
    simp only [Nat.testBit_and, Nat.zero_testBit] at ei
    rw [Nat.testBit_xor, Nat.testBit_or]
    cases h1 : (a.toNat * 256).testBit i <;> cases h2 : b.toNat.testBit i <;> simp_all
  rw [x, show a.toNat * 256 = 2 ^ 8 * a.toNat by omega, ← h]
/-- Two bytes together: sixteen steps of the register with both. -/
theorem byte16_two {r : Nat} (hr : r < 65536) (a b : UInt8) : byte16 (byte16 r a) b = bits16 16 (r ^^^ (a.toNat * 256 + b.toNat)) := by
  have hb := b.toNat_lt
  unfold byte16
  rw [← join16 a b, ← Nat.xor_assoc, bits16_16, bits16_xor (in16 hr a) hb 8 (by omega), show (2 : Nat) ^ 8 = 256 by decide]
theorem byte16_two_inj {r : Nat} (hr : r < 65536) (a b a' b' : UInt8) (h : byte16 (byte16 r a) b = byte16 (byte16 r a') b') : a = a' ∧ b = b' := by
  rw [byte16_two hr, byte16_two hr] at h
  have ha := a.toNat_lt; have hb := b.toNat_lt; have ha' := a'.toNat_lt; have hb' := b'.toNat_lt
  have h1 := xor_cancel (bits16_inj (Nat.xor_lt_two_pow (n := 16) hr (by omega)) (Nat.xor_lt_two_pow (n := 16) hr (by omega)) h)
  constructor <;> (apply UInt8.toNat_inj.1; omega)
def crcF (r : Nat) (l : List UInt8) : Nat := l.foldl byte16 r
theorem crcF_lt {r : Nat} (h : r < 65536) (l : List UInt8) : crcF r l < 65536 := by
  induction l generalizing r with
  | nil => exact h
  | cons c l ih => unfold crcF; rw [List.foldl_cons]; exact ih (byte16_lt h c)
theorem crcF_inj {x y : Nat} (hx : x < 65536) (hy : y < 65536) (l : List UInt8) (h : crcF x l = crcF y l) : x = y := by
  induction l generalizing x y with
  | nil => exact h
  | cons c l ih =>
    unfold crcF at h; rw [List.foldl_cons, List.foldl_cons] at h
    have h2 := ih (byte16_lt hx c) (byte16_lt hy c) h
    exact byte16_inj hx hy c h2
theorem crcN_append (l m : List UInt8) : crcN (l ++ m) = crcF (crcN l) m := by unfold crcN crcF; rw [List.foldl_append]
theorem crcF_two (r : Nat) (a b : UInt8) : crcF r [a, b] = byte16 (byte16 r a) b := by unfold crcF; rw [List.foldl_cons, List.foldl_cons, List.foldl_nil]
theorem crcF_cons (r : Nat) (a : UInt8) (l : List UInt8) : crcF r (a :: l) = crcF (byte16 r a) l := by unfold crcF; rw [List.foldl_cons]
/-- The bytes of a CRC16. -/
def sealB (l : List UInt8) : List UInt8 := [UInt8.ofNat (crcN l / 256), UInt8.ofNat (crcN l % 256)]
theorem sealB_to (l : List UInt8) : (UInt8.ofNat (crcN l / 256)).toNat = crcN l / 256 ∧ (UInt8.ofNat (crcN l % 256)).toNat = crcN l % 256 := by
  have := crcN_lt l
  rw [UInt8.toNat_ofNat', UInt8.toNat_ofNat']; omega
theorem bits16_zero (k : Nat) : bits16 k 0 = 0 := by
  induction k with
  | zero => rfl
  | succ k ih => rw [bits16, ih]; decide
theorem crcN_seal (l : List UInt8) : crcN (l ++ sealB l) = 0 := by
  obtain ⟨h1, h2⟩ := sealB_to l
  unfold sealB
  rw [crcN_append, crcF_two, byte16_two (crcN_lt l), h1, h2, show crcN l / 256 * 256 + crcN l % 256 = crcN l by omega, Nat.xor_self, bits16_zero]
/-- A string whose CRC16 is 0 ends with the CRC16 of the rest. -/
theorem seal_of_zero (l : List UInt8) (a b : UInt8) (h : crcN (l ++ [a, b]) = 0) : [a, b] = sealB l := by
  have h2 := crcN_seal l
  rw [← h] at h2
  unfold sealB at h2
  rw [crcN_append, crcN_append, crcF_two, crcF_two] at h2
  obtain ⟨e1, e2⟩ := byte16_two_inj (crcN_lt l) _ _ _ _ h2
  unfold sealB; rw [e1, e2]
/-- A change of two neighboring bytes changes the CRC16. -/
theorem crc_detects (p q : List UInt8) (a b a' b' : UInt8) (h : ¬ (a = a' ∧ b = b')) : crcN (p ++ [a', b'] ++ q) ≠ crcN (p ++ [a, b] ++ q) := by
  intro e
  rw [crcN_append, crcN_append (p ++ [a, b]), crcN_append, crcN_append p] at e
  have hp := crcN_lt p
  have e2 := crcF_inj (crcF_lt hp _) (crcF_lt hp _) q e
  rw [crcF_two, crcF_two] at e2
  obtain ⟨e3, e4⟩ := byte16_two_inj hp _ _ _ _ e2
  exact h ⟨e3.symm, e4.symm⟩
/-! ### CRC32 -/
def bit32 (r : Nat) : Nat := if r % 2 = 1 then (r / 2) ^^^ 3988292384 else r / 2
theorem bit32_lt {r : Nat} (h : r < 4294967296) : bit32 r < 4294967296 := by
  unfold bit32; split
  · exact Nat.xor_lt_two_pow (n := 32) (by omega) (by omega)
  · omega
def bits32 : Nat → Nat → Nat
  | 0, r => r
  | k + 1, r => bit32 (bits32 k r)
theorem bits32_lt {k r : Nat} (h : r < 4294967296) : bits32 k r < 4294967296 := by
  induction k with
  | zero => exact h
  | succ k ih => exact bit32_lt ih
theorem in32 {r : Nat} (h : r < 4294967296) (c : UInt8) : r ^^^ c.toNat < 4294967296 := by
  have := c.toNat_lt
  exact Nat.xor_lt_two_pow (n := 32) h (by omega)
def crc32F (l : List UInt8) : Nat := l.foldl (fun r c => bits32 8 (r ^^^ c.toNat)) 4294967295
theorem crc32F_snoc (l : List UInt8) (c : UInt8) : crc32F (l ++ [c]) = bits32 8 (crc32F l ^^^ c.toNat) := by simp [crc32F, List.foldl_append]
theorem crc32F_lt (l : List UInt8) : crc32F l < 4294967296 := by
  induction l using list_snoc with
  | h0 => decide
  | h l c ih => rw [crc32F_snoc]; exact bits32_lt (in32 ih c)
/-! ### Hash -/
def hashS (h : Nat) (c : UInt8) : Nat := (h ^^^ c.toNat) * 1099511628211 % 18446744073709551616
theorem hashS_lt (h : Nat) (c : UInt8) : hashS h c < 18446744073709551616 := Nat.mod_lt _ (by omega)
def hashN (l : List UInt8) : Nat := l.foldl hashS 14695981039346656037
theorem hashN_snoc (l : List UInt8) (c : UInt8) : hashN (l ++ [c]) = hashS (hashN l) c := by unfold hashN; rw [List.foldl_append, List.foldl_cons, List.foldl_nil]
theorem hashN_lt (l : List UInt8) : hashN l < 18446744073709551616 := by
  induction l using list_snoc with
  | h0 => decide
  | h l c ih => rw [hashN_snoc]; exact hashS_lt _ _
theorem in64 {r : Nat} (h : r < 18446744073709551616) (c : UInt8) : r ^^^ c.toNat < 18446744073709551616 := by
  have := c.toNat_lt
  exact Nat.xor_lt_two_pow (n := 64) h (by omega)
/-- The bytes of a word, the lowest first. -/
def lit (u : Nat) : Nat → List UInt8
  | 0 => []
  | k + 1 => lit u k ++ [UInt8.ofNat (u / 256 ^ k % 256)]
theorem lit_len (u k : Nat) : (lit u k).length = k := by
  induction k with
  | zero => rfl
  | succ k ih => simp [lit, ih]
end Go.Proofs.Ytcjlopnaakiccaa

