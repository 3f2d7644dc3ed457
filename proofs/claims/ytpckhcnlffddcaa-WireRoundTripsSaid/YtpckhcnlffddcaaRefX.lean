/-
  Contracts of the document's own answers to layer 2 (wire), second part: texts, padding, and reading.
-/
import Derived.Test.YtpckhcnlffddcaaRefW
import Derived.Lib.Strings
namespace Go.Proofs.Ytpckhcnlffddcaa
open Go.RowKit
theorem str_app (a b : List UInt8) : (⟨a.toArray⟩ : ByteArray) ++ ⟨b.toArray⟩ = ⟨(a ++ b).toArray⟩ := by
  apply ByteArray.ext
  rw [ByteArray.data_append]
  simp
theorem resS_at {p : List UInt8 × Int} {l : List UInt8} {y : Int} {s : ByteArray} (h : p = (l, y)) (e : s = ⟨l.toArray⟩) : Ending.returned (.tuple #[.string s, .int .i64 y]) = ResS p := by rw [e]; exact resS_of h
/-- What Text answers. -/
def textS (l : List UInt8) : List UInt8 × Int := if 65535 < l.length then ([], 2) else (enc l.length 2 ++ l, 0)
/-- What Pad answers. -/
def padS (l : List UInt8) (n : Int) : List UInt8 × Int := if n < 0 ∨ 65536 < n then ([], 1) else if n < l.length then ([], 2) else (l ++ List.replicate (n.toNat - l.length) 0, 0)
/-- What taken answers. -/
def takenS (l : List UInt8) (at_ w : Int) : List UInt8 × Int :=
  if at_ < 0 ∨ (l.length : Int) < at_ ∨ ¬ (1 ≤ w ∧ w ≤ 8) then ([], 1) else if (l.length : Int) - at_ < w then ([], 6) else ((l.drop at_.toNat).take w.toNat, 0)
theorem wlen (s : ByteArray) : s.data.toList.length = s.size := by simp
/-- additiveref02.Text -/
theorem ref_Text (s : ByteArray) (hs : s.size ≤ 9223372036854775807) (W : World) :
    Calls Try.prog 21 #[.string s] W fun e W' => e = ResS (textS s.data.toList) ∧ Ext W W' := by
  have sl := wlen s
  by_cases h : 65535 < s.size
  · have Z : Hid (textS s.data.toList = ([], 2)) := Lib.hid (by unfold textS; rw [sl, if_pos h])
    have hi : (65535 : Int) < s.size := by omega
    clear sl
    go_enter Try.func21, Try.ntmps21
    go_wp2_with fail
    go_ret2
    exact ⟨resS_of Z.out, Ext.refl _⟩
  · have B := Lib.hid (ref_bytes (s.size : Int) 2 (by omega) (by omega) (by omega) W)
    have Z : Hid (textS s.data.toList = (enc (s.size : Int).toNat 2 ++ s.data.toList, 0)) := Lib.hid (by
      unfold textS; rw [sl, if_neg h, show (s.size : Int).toNat = s.size by omega])
    have hi : (s.size : Int) ≤ 65535 := by omega
    have hi2 : s.size ≤ 65535 := by omega
    have el : (⟨(enc (s.size : Int).toNat 2).toArray⟩ : ByteArray).size = 2 := by
      show (enc (s.size : Int).toNat 2).toArray.size = 2
      simp [enc_len]
    have ap : (⟨(enc (s.size : Int).toNat 2).toArray⟩ : ByteArray) ++ s = ⟨(enc (s.size : Int).toNat 2 ++ s.data.toList).toArray⟩ := str_app _ s.data.toList
    generalize (enc (s.size : Int).toNat 2) = L at *
    generalize (⟨L.toArray⟩ : ByteArray) = bs at *
    have AP := Lib.hid ap; have eli : bs.size ≤ 2 := by omega
    clear sl ap el h
    go_enter Try.func21, Try.ntmps21
    go_wp2_with fail
    refine B.out.mono ?_; rintro e w1 ⟨rfl, h⟩
    go_wp2_with fail
    all_goals first
      | (exfalso; omega)
      | (go_ret2; exact ⟨resS_at Z.out AP.out, h⟩)
/-- additiveref02.Pad -/
theorem ref_Pad (s : ByteArray) (n : Int) (hs : s.size ≤ 9223372036854775807) (W : World) :
    Calls Try.prog 25 #[.string s, .int .i64 n] W fun e W' => e = ResS (padS s.data.toList n) ∧ Ext W W' := by
  have sl := wlen s
  by_cases h1 : n < 0 ∨ 65536 < n
  · have Z : Hid (padS s.data.toList n = ([], 1)) := Lib.hid (by unfold padS; rw [if_pos h1])
    clear sl
    rcases h1 with h1 | h1
    · have d1 := dlt_t h1
      go_enter Try.func25, Try.ntmps25
      go_wp2_with fail
      go_ret2
      exact ⟨resS_of Z.out, Ext.refl _⟩
    · have d1 := dlt_t h1
      have d2 : decide (n < 0) = false := dlt_f (by omega)
      go_enter Try.func25, Try.ntmps25
      go_wp2_with fail
      go_ret2
      exact ⟨resS_of Z.out, Ext.refl _⟩
  have d1 : decide (n < 0) = false := dlt_f (by omega)
  have d2 : decide (65536 < n) = false := dlt_f (by omega)
  by_cases h2 : n < s.size
  · have Z : Hid (padS s.data.toList n = ([], 2)) := Lib.hid (by unfold padS; rw [if_neg h1, sl, if_pos h2])
    clear sl h1
    go_enter Try.func25, Try.ntmps25
    go_wp2_with fail
    go_ret2
    exact ⟨resS_of Z.out, Ext.refl _⟩
  · obtain ⟨k, hk⟩ : ∃ k : Nat, n = (s.size : Int) + k := ⟨(n - s.size).toNat, by omega⟩
    have Z : Hid (padS s.data.toList n = (s.data.toList ++ List.replicate k 0, 0)) := Lib.hid (by
      unfold padS; rw [if_neg h1, sl, if_neg h2, show n.toNat - s.size = k by omega])
    obtain ⟨wm, hrun, own, ext, hlt⟩ := made W k (by omega)
    have hst := own.string
    have ap : s ++ (⟨(List.replicate k (0 : UInt8)).toArray⟩ : ByteArray) = ⟨(s.data.toList ++ List.replicate k 0).toArray⟩ := str_app s.data.toList _
    have bl : (⟨(List.replicate k (0 : UInt8)).toArray⟩ : ByteArray).size = k := by
      show (List.replicate k (0 : UInt8)).toArray.size = k
      simp
    generalize (⟨(List.replicate k (0 : UInt8)).toArray⟩ : ByteArray) = bs at *
    have AP := Lib.hid ap
    have b1 : bs.size ≤ 65536 := by omega
    have s1 : s.size ≤ 65536 := by omega
    have hd : n - (s.size : Int) = k := by omega
    have n0 : 0 ≤ n := by omega
    have n1 : n ≤ 65536 := by omega
    have ns : (s.size : Int) ≤ n := by omega
    have EX := Lib.hid ext
    clear sl h1 h2 ap bl hk own ext hlt
    go_enter Try.func25, Try.ntmps25
    go_wp2_with fail
    all_goals first
      | (exfalso; omega)
      | (go_ret2; exact ⟨resS_at Z.out AP.out, EX.out⟩)
theorem slice_lh (W : World) (s : ByteArray) (l h : Int) (h0 : 0 ≤ l) (h1 : l ≤ h) (h2 : h ≤ s.size) :
    (Instr.slice 9 (.string s) (some (.int .i64 l)) (some (.int .i64 h)) none).run Try.prog W = .ok (.string (s.extract l.toNat h.toNat)) W := by
  have ht : Try.prog.underlying 9 = some .string := by kernel_rfl
  have h3 : 0 ≤ h := by omega
  have h4 : l ≤ (h.toNat : Int) := by omega
  have e : (Instr.sliceBound (.int .i64 l) h.toNat .sliceB).run Try.prog W = .ok l.toNat W := run_sliceBound _ _ _ _ _ h0 h4
  simp [Instr.slice, run_underlying ht, Instr.sliceBounds, run_sliceBound, *]
/-- additiveref02.taken -/
theorem ref_taken (s : ByteArray) (a w : Int) (hs : s.size ≤ 9223372036854775807) (W : World) :
    Calls Try.prog 31 #[.string s, .int .i64 a, .int .i64 w] W fun e W' => e = ResS (takenS s.data.toList a w) ∧ W = W' := by
  have sl := wlen s
  by_cases h1 : a < 0
  · have Z : Hid (takenS s.data.toList a w = ([], 1)) := Lib.hid (by unfold takenS; rw [if_pos (.inl h1)])
    have d1 := dlt_t h1
    clear sl
    go_enter Try.func31, Try.ntmps31
    go_wp2_with fail
    go_ret2
    exact ⟨resS_of Z.out, rfl⟩
  have d1 : decide (a < 0) = false := dlt_f (by omega)
  by_cases h2 : (s.size : Int) < a
  · have Z : Hid (takenS s.data.toList a w = ([], 1)) := Lib.hid (by unfold takenS; rw [if_pos (.inr (.inl (by rw [sl]; exact h2)))])
    have d2 := dlt_t h2
    clear sl
    go_enter Try.func31, Try.ntmps31
    go_wp2_with fail
    go_ret2
    exact ⟨resS_of Z.out, rfl⟩
  have d2 : decide ((s.size : Int) < a) = false := dlt_f (by omega)
  by_cases h3 : 1 ≤ w ∧ w ≤ 8
  case neg =>
    have Z : Hid (takenS s.data.toList a w = ([], 1)) := Lib.hid (by unfold takenS; rw [if_pos (.inr (.inr h3))])
    have C := Lib.hid (ref_fits_f w h3 W)
    clear sl h3
    go_enter Try.func31, Try.ntmps31
    go_wp2_with fail
    refine C.out.mono ?_; rintro e w' ⟨rfl, rfl⟩
    go_wp2_with fail
    go_ret2
    exact ⟨resS_of Z.out, rfl⟩
  have C := Lib.hid (ref_fits_t w h3.1 h3.2 W)
  have hn : ¬ (a < 0 ∨ (s.data.toList.length : Int) < a ∨ ¬ (1 ≤ w ∧ w ≤ 8)) := by rw [sl]; omega
  obtain ⟨w1, w2⟩ := h3
  have a0 : 0 ≤ a := by omega
  have a1 : a ≤ s.size := by omega
  have s1 : (s.size : Int) ≤ 9223372036854775807 := by omega
  by_cases h4 : (s.size : Int) - a < w
  · have Z : Hid (takenS s.data.toList a w = ([], 6)) := Lib.hid (by unfold takenS; rw [if_neg hn, sl, if_pos h4])
    have d3 := dlt_t h4
    clear sl hn
    go_enter Try.func31, Try.ntmps31
    go_wp2_with fail
    refine C.out.mono ?_; rintro e w' ⟨rfl, rfl⟩
    go_wp2_with fail
    go_ret2
    exact ⟨resS_of Z.out, rfl⟩
  · have Z : Hid (takenS s.data.toList a w = ((s.data.toList.drop a.toNat).take w.toNat, 0)) := Lib.hid (by unfold takenS; rw [if_neg hn, sl, if_neg h4])
    have d3 := dlt_f (show w ≤ (s.size : Int) - a by omega)
    have h5 : w ≤ (s.size : Int) - a := by omega
    obtain ⟨i, rfl⟩ : ∃ i : Nat, a = i := ⟨a.toNat, by omega⟩
    obtain ⟨k, rfl⟩ : ∃ k : Nat, w = k := ⟨w.toNat, by omega⟩
    have ex : s.extract i (i + k) = ⟨((s.data.toList.drop (i : Int).toNat).take (k : Int).toNat).toArray⟩ := by
      apply ByteArray.ext; apply Array.toList_inj.1
      rw [Lib.extract_data]; simp
    have sr := slice_lh W s (i : Int) ((i : Int) + (k : Int)) (by omega) (by omega) (by omega)
    rw [show (i : Int).toNat = i by omega, show ((i : Int) + (k : Int)).toNat = i + k by omega, ex] at sr
    clear sl hn h4 ex
    go_enter Try.func31, Try.ntmps31
    go_wp2_with fail
    refine C.out.mono ?_; rintro e w' ⟨rfl, rfl⟩
    go_wp2_with fail
    go_ret2
    exact ⟨resS_of Z.out, rfl⟩
end Go.Proofs.Ytpckhcnlffddcaa
