/-
  The walk of the law NumParses: every text of at most 3000 bytes is read, or rejected, as the document says, and the text of a number that was read is the text.
-/
import Derived.Test.YtflalomgifeaaaaDoorLawC
import Derived.Test.YtflalomgifeaaaaDoorRefP
namespace Go.Proofs.YtflalomgifeaaaaDoor
open Go.RowKit
/-- The digits of a number that digits say are those digits, if none but 0 begins with a zero. -/
theorem dec_val : ∀ (n : Nat) (l : List UInt8), l.length = n → l ≠ [] → l.all dgt = true → (l.head? = some 48 → l.length < 2) → Lib.decDigits (val l) = l := by
  intro n
  induction n with
  | zero => intro l h hn; exact absurd (List.eq_nil_of_length_eq_zero h) hn
  | succ n ih =>
    intro l hl hn hd hz
    obtain ⟨r, c, rfl⟩ : ∃ r c, l = r ++ [c] := ⟨l.dropLast, l.getLast hn, (List.dropLast_concat_getLast hn).symm⟩
    rw [List.all_append, Bool.and_eq_true] at hd
    have hc := (dgt_iff c).1 (by simpa using hd.2)
    have lr : r.length = n := by simpa using hl
    have ec : UInt8.ofNat (48 + (c.toNat - 48)) = c := by
      rw [show 48 + (c.toNat - 48) = c.toNat by omega]; exact UInt8.ofNat_toNat
    rw [val_snoc]
    by_cases hr : r = []
    · subst hr
      rw [show val [] = 0 from rfl, Lib.decDigits, dif_pos (by omega), show 48 + (10 * 0 + (c.toNat - 48)) = 48 + (c.toNat - 48) by omega, ec]
      rfl
    · have hz' : r.head? = some 48 → r.length < 2 := fun h => by
        have : (r ++ [c]).head? = some 48 := by
          cases r with
          | nil => cases h
          | cons a b => exact h
        have := hz this
        rw [List.length_append] at this
        have : 0 < r.length := List.length_pos_iff.2 hr
        simp at *
        omega
      have e := ih r lr hr hd.1 hz'
      have vp : val r ≠ 0 := fun h0 => by
        rw [h0] at e
        have e48 : Lib.decDigits 0 = [48] := by rw [Lib.decDigits, dif_pos (by omega)]; rfl
        rw [e48] at e
        subst e
        have := hz rfl
        simp at this
      rw [Lib.decDigits, dif_neg (by omega), show (10 * val r + (c.toNat - 48)) / 10 = val r by omega, show (10 * val r + (c.toNat - 48)) % 10 = c.toNat - 48 by omega, e, ec]
/-- A number that was read has the text as its text. -/
theorem itoa_prs (l : List UInt8) (x e : Int) (h : prs (cut l).1 (cut l).2 = (x, e)) (he : e = 0) : Lib.itoa x = l ∧ -9223372036854775808 ≤ x ∧ x ≤ 9223372036854775807 := by
  subst he
  have main : ∀ (neg : Bool) (ds : List UInt8), prs neg ds = (x, 0) → ds ≠ [] ∧ ds.all dgt = true ∧ (ds.head? = some 48 → neg = false ∧ ds.length < 2) ∧ ((neg = true ∧ x = -(val ds : Int) ∧ val ds ≤ 9223372036854775808) ∨ (neg = false ∧ x = (val ds : Int) ∧ val ds < 9223372036854775808)) := by
    intro neg ds h
    unfold prs at h
    split at h
    · cases h
    · rename_i hc
      have h1 : ds ≠ [] := fun e => hc (.inl e)
      have h2 : ds.all dgt = true := by
        cases hh : ds.all dgt
        · exact absurd (.inr (.inr hh)) hc
        · rfl
      have h3 : ds.head? = some 48 → neg = false ∧ ds.length < 2 := fun e => by
        refine ⟨?_, ?_⟩
        · cases neg
          · rfl
          · exact absurd (.inr (.inl ⟨e, .inl rfl⟩)) hc
        · rcases Nat.lt_or_ge ds.length 2 with u | u
          · exact u
          · exact absurd (.inr (.inl ⟨e, .inr u⟩)) hc
      refine ⟨h1, h2, h3, ?_⟩
      split at h
      · rename_i hn
        split at h
        · cases h; exact .inl ⟨hn, rfl, by assumption⟩
        · cases h
      · rename_i hn
        split at h
        · cases h; exact .inr ⟨by simpa using hn, rfl, by assumption⟩
        · cases h
  by_cases hm : l.head? = some 45
  · obtain ⟨t, ht⟩ : ∃ t, l = 45 :: t := by
      cases l with
      | nil => cases hm
      | cons c r => exact ⟨r, by rw [Option.some.inj hm]⟩
    rw [cut_minus ht] at h
    obtain ⟨h1, h2, h3, h4⟩ := main true t h
    rcases h4 with ⟨_, hx, hv⟩ | ⟨hn, _⟩
    · have nh : t.head? ≠ some 48 := fun e => by have := (h3 e).1; cases this
      have e := dec_val _ t rfl h1 h2 (fun e => absurd e nh)
      have vp : val t ≠ 0 := fun h0 => by
        rw [h0] at e
        have e48 : Lib.decDigits 0 = [48] := by rw [Lib.decDigits, dif_pos (by omega)]; rfl
        rw [e48] at e
        exact nh (by rw [← e]; rfl)
      refine ⟨?_, by omega, by omega⟩
      unfold Lib.itoa
      rw [if_pos (by omega), show x.natAbs = val t by omega, e, ht]
    · cases hn
  · rw [cut_plain hm] at h
    obtain ⟨h1, h2, h3, h4⟩ := main false l h
    rcases h4 with ⟨hn, _⟩ | ⟨_, hx, hv⟩
    · cases hn
    · refine ⟨?_, by omega, by omega⟩
      unfold Lib.itoa
      rw [if_neg (by omega), show x.toNat = val l by omega, dec_val _ l rfl h1 h2 fun e => (h3 e).2]
set_option maxHeartbeats 1000000 in
theorem parses_at (S s : ByteArray) (w : World) (ht : Tab w) (hl : (S.size ≤ 3000 ∧ S = s) ∨ (3000 < S.size ∧ S.extract 0 3000 = s)) (hs : s.size ≤ 3000) :
    Calls Tryd.prog 8 #[.string S] w fun e w' => e = .returned (.bool true) ∧ Ext w w' := by
  have c1 := num_Parse s (by omega)
  have c2 := ref_Parse s (by omega)
  obtain ⟨x, e, hp⟩ : ∃ x e, prs (cut s.data.toList).1 (cut s.data.toList).2 = (x, e) := ⟨_, _, rfl⟩
  rw [hp] at c1 c2
  unfold Res at c1 c2
  have C1 := Lib.hid c1; have C2 := Lib.hid c2
  clear c1 c2
  by_cases he : e = 0
  · obtain ⟨i1, i2, i3⟩ := itoa_prs _ x e hp he
    have c3 := num_Format x i2 i3
    rw [i1, show (ByteArray.mk s.data.toList.toArray) = s from rfl] at c3
    have C3 := Lib.hid c3
    clear c3 i1 hp
    subst he
    rcases hl with ⟨h, rfl⟩ | ⟨h, hx⟩
    · have hi : (S.size : Int) ≤ 3000 := by omega
      go_enter Tryd.func8, Tryd.ntmps8
      go_wp2_with fail
      refine (C1.out _).mono ?_; rintro e w' ⟨rfl, rfl⟩
      go_wp2_with fail
      refine (C2.out _).mono ?_; rintro e w' ⟨rfl, rfl⟩
      go_wp2_with fail
      refine (law_same _ _ _).mono ?_; rintro e w' ⟨rfl, rfl⟩
      go_wp2_with fail
      refine (C3.out _ ht).mono ?_; rintro e w2 ⟨rfl, h2⟩
      go_wp2_with fail
      refine (law_awake _ (ht.ext h2)).mono ?_; rintro e w3 ⟨rfl, h3⟩
      go_wp2_with fail
      go_ret
      exact ⟨rfl, h2.trans h3⟩
    · have hi : (3000 : Int) < S.size := by omega
      go_enter Tryd.func8, Tryd.ntmps8
      go_wp2_with fail
      refine (C1.out _).mono ?_; rintro e w' ⟨rfl, rfl⟩
      go_wp2_with fail
      refine (C2.out _).mono ?_; rintro e w' ⟨rfl, rfl⟩
      go_wp2_with fail
      refine (law_same _ _ _).mono ?_; rintro e w' ⟨rfl, rfl⟩
      go_wp2_with fail
      refine (C3.out _ ht).mono ?_; rintro e w2 ⟨rfl, h2⟩
      go_wp2_with fail
      refine (law_awake _ (ht.ext h2)).mono ?_; rintro e w3 ⟨rfl, h3⟩
      go_wp2_with fail
      go_ret
      exact ⟨rfl, h2.trans h3⟩
  · have d1 := bne_t he
    have d2 : (e == 0) = false := beq_f he
    clear hp he
    rcases hl with ⟨h, rfl⟩ | ⟨h, hx⟩
    · have hi : (S.size : Int) ≤ 3000 := by omega
      go_enter Tryd.func8, Tryd.ntmps8
      go_wp2_with fail
      refine (C1.out _).mono ?_; rintro e w' ⟨rfl, rfl⟩
      go_wp2_with fail
      refine (C2.out _).mono ?_; rintro e w' ⟨rfl, rfl⟩
      go_wp2_with fail
      refine (law_same _ _ _).mono ?_; rintro e w' ⟨rfl, rfl⟩
      go_wp2_with fail
      refine (law_awake _ ht).mono ?_; rintro e w3 ⟨rfl, h3⟩
      go_wp2_with fail
      go_ret
      exact ⟨rfl, h3⟩
    · have hi : (3000 : Int) < S.size := by omega
      go_enter Tryd.func8, Tryd.ntmps8
      go_wp2_with fail
      refine (C1.out _).mono ?_; rintro e w' ⟨rfl, rfl⟩
      go_wp2_with fail
      refine (C2.out _).mono ?_; rintro e w' ⟨rfl, rfl⟩
      go_wp2_with fail
      refine (law_same _ _ _).mono ?_; rintro e w' ⟨rfl, rfl⟩
      go_wp2_with fail
      refine (law_awake _ ht).mono ?_; rintro e w3 ⟨rfl, h3⟩
      go_wp2_with fail
      go_ret
      exact ⟨rfl, h3⟩
theorem law_NumParses (S : ByteArray) (_ : S.size ≤ maxLen) (w : World) (ht : Tab w) :
    Calls Tryd.prog 8 #[.string S] w fun e w' => e = .returned (.bool true) ∧ Ext w w' := by
  by_cases h : S.size ≤ 3000
  · exact parses_at S S w ht (.inl ⟨h, rfl⟩) h
  · refine parses_at S (S.extract 0 3000) w ht (.inr ⟨by omega, rfl⟩) ?_
    rw [ByteArray.size_extract]; omega
end Go.Proofs.YtflalomgifeaaaaDoor
