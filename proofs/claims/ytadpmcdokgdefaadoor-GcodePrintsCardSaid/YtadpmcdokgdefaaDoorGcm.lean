/-
  Decimal numerals and words of commands as texts: a numeral is that of one number alone, a text of words that of one row of words alone; bits that are left out. No program is named here.
-/
import Derived.Test.YtadpmcdokgdefaaDoorPl
import Derived.Lib.ItoaNum
namespace Go.Proofs.YtadpmcdokgdefaaDoor
open Go
/-- The number that digits are the numeral of. -/
def dval (l : List UInt8) : Nat := l.foldl (fun v c => v * 10 + (c.toNat - 48)) 0
theorem dval_snoc (l : List UInt8) (c : UInt8) : dval (l ++ [c]) = dval l * 10 + (c.toNat - 48) := by
  unfold dval
  rw [List.foldl_append]; rfl
theorem dig_nat {k : Nat} (h : k < 10) : (UInt8.ofNat (48 + k)).toNat = 48 + k := by
  rw [UInt8.toNat_ofNat']
  exact Nat.mod_eq_of_lt (by omega)
theorem dval_dec (u : Nat) : dval (Lib.decDigits u) = u := by
  induction u using Nat.strongRecOn with
  | _ u ih =>
    rw [Lib.decDigits]
    by_cases h : u < 10
    · rw [dif_pos h]
      unfold dval
      show 0 * 10 + ((UInt8.ofNat (48 + u)).toNat - 48) = u
      rw [dig_nat h]; omega
    · rw [dif_neg h, dval_snoc, ih _ (by omega), dig_nat (by omega)]
      omega
theorem dec_ok (u : Nat) : Lib.decDigits u ≠ [] ∧ ∀ c ∈ Lib.decDigits u, 48 ≤ c.toNat ∧ c.toNat ≤ 57 := by
  induction u using Nat.strongRecOn with
  | _ u ih =>
    rw [Lib.decDigits]
    by_cases h : u < 10
    · rw [dif_pos h]
      refine ⟨by simp, fun c hc => ?_⟩
      rw [List.mem_singleton] at hc
      subst hc
      rw [dig_nat h]; omega
    · rw [dif_neg h]
      refine ⟨by simp, fun c hc => ?_⟩
      rw [List.mem_append, List.mem_singleton] at hc
      rcases hc with hc | hc
      · exact (ih _ (by omega)).2 c hc
      · subst hc
        rw [dig_nat (by omega)]; omega
theorem itoa_no {n : Int} {c : UInt8} (h : c ∈ Lib.itoa n) : c ≠ 32 ∧ c ≠ 71 ∧ c ≠ 77 := by
  have : c.toNat = 45 ∨ 48 ≤ c.toNat ∧ c.toNat ≤ 57 := by
    unfold Lib.itoa at h
    split at h
    · rw [List.mem_cons] at h
      rcases h with h | h
      · subst h; exact .inl rfl
      · exact .inr ((dec_ok _).2 c h)
    · exact .inr ((dec_ok _).2 c h)
  refine ⟨?_, ?_, ?_⟩ <;> intro e <;> subst e <;> revert this <;> decide
theorem itoa_inj {a b : Int} (h : Lib.itoa a = Lib.itoa b) : a = b := by
  have nm : ∀ (u v : Nat), Lib.decDigits u ≠ 45 :: Lib.decDigits v := fun u v e => by
    have := (dec_ok u).2 45 (by rw [e]; exact List.mem_cons_self)
    revert this; decide
  have inj : ∀ (u v : Nat), Lib.decDigits u = Lib.decDigits v → u = v := fun u v e => by rw [← dval_dec u, e, dval_dec]
  unfold Lib.itoa at h
  split at h <;> split at h
  · have := inj _ _ (List.cons.inj h).2
    omega
  · exact absurd h.symm (nm _ _)
  · exact absurd h (nm _ _)
  · have := inj _ _ h
    omega
/-- What begins behind a numeral, if anything: a space. -/
def spc : List UInt8 → Prop
  | [] => True
  | c :: _ => c = 32
theorem tok_inj : ∀ {x y X Y : List UInt8}, (∀ c ∈ x, c ≠ 32) → (∀ c ∈ y, c ≠ 32) → spc X → spc Y → x ++ X = y ++ Y → x = y ∧ X = Y
  | [], [], _, _, _, _, _, _, h => ⟨rfl, h⟩
  | [], c :: y, X, Y, _, hy, hX, _, h => by
    subst h
    exact absurd hX (hy c List.mem_cons_self)
  | c :: x, [], X, Y, hx, _, _, hY, h => by
    have h : c :: (x ++ X) = Y := h
    subst h
    exact absurd hY (hx c List.mem_cons_self)
  | c :: x, d :: y, X, Y, hx, hy, hX, hY, h => by
    have h : c :: (x ++ X) = d :: (y ++ Y) := h
    have hc := (List.cons.inj h).1
    subst hc
    obtain ⟨e1, e⟩ := tok_inj (fun c hc => hx c (List.mem_cons_of_mem _ hc)) (fun c hc => hy c (List.mem_cons_of_mem _ hc)) hX hY (List.cons.inj h).2
    exact ⟨by rw [e1], e⟩
/-- A word, if it is there: a space, its letter, its number. -/
def wrd (h : Bool) (l : UInt8) (n : Int) : List UInt8 := bif h then 32 :: l :: Lib.itoa n else []
/-- A row of words, one behind the other. -/
def wrds : List (Bool × UInt8 × Int) → List UInt8
  | [] => []
  | (h, l, n) :: r => wrd h l n ++ wrds r
theorem wrds_spc : ∀ l, spc (wrds l)
  | [] => trivial
  | (true, _, _) :: _ => rfl
  | (false, _, _) :: r => wrds_spc r
/-- The letter of the first word that is there is one of the row's. -/
theorem wrds_head : ∀ (l : List (Bool × UInt8 × Int)) {c : UInt8} {r : List UInt8}, wrds l = 32 :: c :: r → c ∈ l.map fun x => x.2.1
  | (true, a, n) :: l, c, r, h => by
    have h : (32 : UInt8) :: a :: (Lib.itoa n ++ wrds l) = 32 :: c :: r := h
    have := (List.cons.inj (List.cons.inj h).2).1
    subst this
    exact List.mem_cons_self
  | (false, a, n) :: l, c, r, h => List.mem_cons_of_mem _ (wrds_head l h)
/-- Two rows of words with the same letters, all different, whose texts are alike: the same words are there, with the same numbers; a number whose word isn't there is 0. -/
theorem wrds_inj : ∀ (l m : List (Bool × UInt8 × Int)), l.map (fun x => x.2.1) = m.map (fun x => x.2.1) → (l.map fun x => x.2.1).Nodup → (∀ x ∈ l, x.1 = false → x.2.2 = 0) → (∀ x ∈ m, x.1 = false → x.2.2 = 0) → wrds l = wrds m → l = m
  | [], [], _, _, _, _, _ => rfl
  | [], _ :: _, h, _, _, _, _ => by cases h
  | _ :: _, [], h, _, _, _, _ => by cases h
  | (x, a, n) :: l, (y, b, k) :: m, h0, hn0, hl, hm, e => by
    have h1 : a :: l.map (fun x => x.2.1) = b :: m.map (fun x => x.2.1) := h0
    have hab := (List.cons.inj h1).1
    subst hab
    have h := (List.cons.inj h1).2
    have hn : (a :: l.map (fun x => x.2.1)).Nodup := hn0
    rw [List.nodup_cons] at hn
    clear h0 h1 hn0
    have rec' := fun e => wrds_inj l m h hn.2 (fun x hx => hl x (List.mem_cons_of_mem _ hx)) (fun x hx => hm x (List.mem_cons_of_mem _ hx)) e
    cases x <;> cases y
    · have e : wrds l = wrds m := e
      have h1 : n = 0 := hl _ List.mem_cons_self rfl
      have h2 : k = 0 := hm _ List.mem_cons_self rfl
      rw [rec' e, h1, h2]
    · have e : wrds l = 32 :: a :: (Lib.itoa k ++ wrds m) := e
      exact absurd (wrds_head l e) hn.1
    · have e : (32 : UInt8) :: a :: (Lib.itoa n ++ wrds l) = wrds m := e
      have := wrds_head m e.symm
      rw [← h] at this
      exact absurd this hn.1
    · have e : (32 : UInt8) :: a :: (Lib.itoa n ++ wrds l) = 32 :: a :: (Lib.itoa k ++ wrds m) := e
      have e := (List.cons.inj (List.cons.inj e).2).2
      obtain ⟨e1, e2⟩ := tok_inj (fun c hc => (itoa_no hc).1) (fun c hc => (itoa_no hc).1) (wrds_spc l) (wrds_spc m) e
      rw [itoa_inj e1, rec' e2]
/-- The text of a command: its name, then its words. -/
def ctx (code : Int) (l : List (Bool × UInt8 × Int)) : List UInt8 := (bif decide (code < 1000) then 71 :: Lib.itoa code else 77 :: Lib.itoa (code - 1000)) ++ wrds l
theorem ctx_inj {a b : Int} {l m : List (Bool × UInt8 × Int)} (h : l.map (fun x => x.2.1) = m.map (fun x => x.2.1)) (hn : (l.map fun x => x.2.1).Nodup) (hl : ∀ x ∈ l, x.1 = false → x.2.2 = 0) (hm : ∀ x ∈ m, x.1 = false → x.2.2 = 0) (e : ctx a l = ctx b m) : a = b ∧ l = m := by
  have no : ∀ z : Int, ∀ c ∈ (bif decide (z < 1000) then 71 :: Lib.itoa z else 77 :: Lib.itoa (z - 1000) : List UInt8), c ≠ 32 := by
    intro z c hc
    cases hd : decide (z < 1000)
    · rw [hd] at hc
      rcases List.mem_cons.1 hc with rfl | hc
      · decide
      · exact (itoa_no hc).1
    · rw [hd] at hc
      rcases List.mem_cons.1 hc with rfl | hc
      · decide
      · exact (itoa_no hc).1
  unfold ctx at e
  obtain ⟨e1, e2⟩ := tok_inj (no a) (no b) (wrds_spc l) (wrds_spc m) e
  refine ⟨?_, wrds_inj l m h hn hl hm e2⟩
  by_cases h1 : a < 1000 <;> by_cases h2 : b < 1000
  · rw [decide_eq_true h1, decide_eq_true h2] at e1
    exact itoa_inj (List.cons.inj e1).2
  · rw [decide_eq_true h1, decide_eq_false h2] at e1
    exact absurd (List.cons.inj e1).1 (by decide)
  · rw [decide_eq_false h1, decide_eq_true h2] at e1
    exact absurd (List.cons.inj e1).1 (by decide)
  · rw [decide_eq_false h1, decide_eq_false h2] at e1
    have := itoa_inj (List.cons.inj e1).2
    omega
theorem ba_app (a b : List UInt8) : (⟨a.toArray⟩ : ByteArray) ++ ⟨b.toArray⟩ = ⟨(a ++ b).toArray⟩ := by
  apply ByteArray.ext
  rw [ByteArray.data_append]
  simp
/-- Bits that others leave out: none is left, so the number is not above the others. -/
theorem bits_le {x : Int} {m : Nat} (hm : m < 9223372036854775808) (h : (BitVec.ofInt 64 x &&& ~~~BitVec.ofNat 64 m).toNat = 0) : (BitVec.ofInt 64 x).toNat ≤ m := by
  have e : BitVec.ofInt 64 x = BitVec.ofInt 64 x &&& BitVec.ofNat 64 m := by
    apply BitVec.eq_of_getLsbD_eq
    intro i hi
    have z : (BitVec.ofInt 64 x &&& ~~~BitVec.ofNat 64 m).getLsbD i = false := by
      rw [show BitVec.ofInt 64 x &&& ~~~BitVec.ofNat 64 m = 0#64 from BitVec.eq_of_toNat_eq h]
      simp
    rw [BitVec.getLsbD_and, BitVec.getLsbD_not] at z
    rw [BitVec.getLsbD_and]
    revert z
    cases (BitVec.ofInt 64 x).getLsbD i <;> cases (BitVec.ofNat 64 m).getLsbD i <;> simp [hi]
  rw [e, BitVec.toNat_and]
  refine Nat.le_trans Nat.and_le_right ?_
  rw [BitVec.toNat_ofNat]
  exact Nat.mod_le _ _
end Go.Proofs.YtadpmcdokgdefaaDoor
