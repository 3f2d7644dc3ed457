/-
  Contracts of the document's own Open, of both Mix, and of the statements' own short and changed.
-/
import Derived.Test.YtcjlopnaakiccaaSumC
import Derived.Lib.ConvBytes
import Derived.Laws.IdiomStrings
namespace Go.Proofs.Ytcjlopnaakiccaa
open Go.RowKit
theorem seal_parts (l : List UInt8) (h : 2 ≤ l.length) : (l.take (l.length - 2) ++ sealB (l.take (l.length - 2)) = l) ↔ l.drop (l.length - 2) = sealB (l.take (l.length - 2)) := by
  constructor
  · intro e
    have e2 := congrArg (List.drop (l.length - 2)) e
    rw [List.drop_append, List.drop_of_length_le (by simp), List.nil_append] at e2
    simp only [List.length_take] at e2
    rw [show l.length - 2 - min (l.length - 2) l.length = 0 by omega, List.drop_zero] at e2
    exact e2.symm
  · intro e
    rw [← e, List.take_append_drop]
set_option maxHeartbeats 1000000 in
/-- additiveref03.Open -/
theorem ref_Open (s : ByteArray) (hs : (s.size : Int) ≤ 1000) (w : World) :
    Calls Try.prog 21 #[.string s] w fun e w' => e = ResS (openS s.data.toList) ∧ Ext w w' := by
  have sl := slen s
  by_cases h2 : s.size < 2
  · have Z : Hid (openS s.data.toList = ([], 6)) := Lib.hid (by unfold openS; rw [sl, if_pos h2])
    have d : decide ((s.size : Int) < 2) = true := dlt_t (by omega)
    clear sl
    go_enter Try.func21, Try.ntmps21
    go_wp2_with fail
    go_ret2
    exact ⟨resS_of Z.out, Ext.refl _⟩
  have d : decide ((s.size : Int) < 2) = false := dlt_f (by omega)
  have r2 := fun W => slice_hi W s ((s.size : Int) - 2) (by omega) (by omega)
  rw [show ((s.size : Int) - 2).toNat = s.size - 2 by omega] at r2
  have tl : (s.extract 0 (s.size - 2)).data.toList = s.data.toList.take (s.size - 2) := by rw [cut_lo]
  have sz : ((s.extract 0 (s.size - 2)).size : Int) ≤ 1000 := by
    have : (s.extract 0 (s.size - 2)).data.toList.length = (s.extract 0 (s.size - 2)).size := slen _
    rw [tl, List.length_take] at this; omega
  have C := fun W => ref_Seal (s.extract 0 (s.size - 2)) sz W
  rw [tl] at C
  have hz : 0 ≤ (s.size : Int) - 2 := by omega
  have sp := seal_parts s.data.toList (by omega)
  rw [sl] at sp
  by_cases h : s.data.toList.drop (s.size - 2) = sealB (s.data.toList.take (s.size - 2))
  · have Z : Hid (openS s.data.toList = (s.data.toList.take (s.size - 2), 0)) := Lib.hid (by unfold openS; rw [sl, if_neg h2, if_pos h])
    rw [sp.2 h, str_of] at C
    have CL := Lib.hid (cut_lo s (s.size - 2))
    generalize s.extract 0 (s.size - 2) = q at *
    have C' := Lib.hid C
    clear sl C h tl h2 sp
    go_enter Try.func21, Try.ntmps21
    go_wp2_with fail
    refine (C'.out _).mono ?_; rintro e w1 ⟨rfl, h1⟩
    go_wp2_with fail
    go_ret2
    exact ⟨resS_at Z.out CL.out, h1⟩
  · have Z : Hid (openS s.data.toList = ([], 7)) := Lib.hid (by unfold openS; rw [sl, if_neg h2, if_neg h])
    have ne : (⟨(s.data.toList.take (s.size - 2) ++ sealB (s.data.toList.take (s.size - 2))).toArray⟩ : ByteArray) ≠ s := by
      intro e
      exact h (sp.1 (bytes_inj.1 (e.trans (str_of s).symm)))
    obtain ⟨u, hu⟩ : ∃ u : ByteArray, ⟨(s.data.toList.take (s.size - 2) ++ sealB (s.data.toList.take (s.size - 2))).toArray⟩ = u := ⟨_, rfl⟩
    rw [hu] at C ne
    generalize s.extract 0 (s.size - 2) = q at *
    have df : (u.toList == s.toList) = false := by
      rw [beq_eq_false_iff_ne]; exact fun e => ne (toList_inj e)
    have C' := Lib.hid C
    clear sl C h tl h2 ne hu sp
    go_enter Try.func21, Try.ntmps21
    go_wp2_with fail
    refine (C'.out _).mono ?_; rintro e w1 ⟨rfl, h1⟩
    go_wp2_with fail
    go_ret2
    exact ⟨resS_of Z.out, h1⟩
/-- additivelaw03.short -/
theorem law_short (s : ByteArray) (hs : (s.size : Int) ≤ 9223372036854775807) (w : World) :
    Calls Try.prog 8 #[.string s] w fun e w' => e = .returned (.string ⟨(s.data.toList.take 200).toArray⟩) ∧ w = w' := by
  have sl := slen s
  by_cases h : (200 : Int) < s.size
  · have d := dlt_t h
    have r2 := fun W => slice_hi W s 200 (by omega) (by omega)
    rw [show (200 : Int).toNat = 200 from rfl, cut_lo] at r2
    clear sl
    go_enter Try.func8, Try.ntmps8
    go_wp2_with fail
    go_ret
    exact ⟨rfl, rfl⟩
  · have d : decide ((200 : Int) < s.size) = false := dlt_f (by omega)
    have e : Hid (s = ⟨(s.data.toList.take 200).toArray⟩) := Lib.hid (by rw [List.take_of_length_le (by omega), str_of])
    clear sl
    go_enter Try.func8, Try.ntmps8
    go_wp2_with fail
    go_ret
    exact ⟨ret_s e.out, rfl⟩
theorem from_string (w : World) (s : ByteArray) : ∃ W1 c, (convert 9 42 (.string s)).run Try.prog w = .ok (.slice (some ⟨w.heap.size, 0, none⟩) s.size c) W1 ∧
    (∀ j, (hj : j < s.size) → W1.cell? ⟨w.heap.size, j, none⟩ = some (.int .u8 (s[j].toNat : Int))) ∧ (∀ j, j < s.size → W1.frozen? ⟨w.heap.size, j, none⟩ = false) ∧ W1.heap.size = w.heap.size + 1 ∧ Ext w W1 ∧ s.size ≤ c := by
  refine ⟨Lib.bytesWorld w 5 s, _, Lib.run_convert_string_bytes (u := .string) w 9 42 5 s (by kernel_rfl) (by kernel_rfl) (by kernel_rfl), fun j hj => ?_, fun j hj => ?_, Lib.bytesWorld_size _ _ _, ?_, grownCap_ge _ _ _ _⟩
  · rw [Lib.bytesWorld_cell w _ s j hj]
    have : s.data.toList[j]? = some s[j] := sum_at s j hj
    rw [List.getD, this]; rfl
  · have hs : j < (Lib.bytesCells w 5 s).size := by
      have : s.data.size = s.size := rfl
      simp [Lib.bytesCells]; omega
    simp only [World.frozen?, Lib.bytesWorld_at_new]
    simp; omega
  · exact ⟨rfl, rfl, rfl, by rw [Lib.bytesWorld_size]; omega, fun k hk => Lib.bytesWorld_at_old w _ s k hk⟩
/-- additivelaw03.changed -/
theorem law_changed (s : ByteArray) (a : Nat) (x : UInt8) (hs : s.size ≤ 1000) (ha : a < s.size) (w : World) :
    Calls Try.prog 24 #[.string s, .int .i64 (a : Int), .int .u8 (x.toNat : Int)] w fun e w' => e = .returned (.string ⟨(s.data.toList.set a (s[a] ^^^ x)).toArray⟩) ∧ Ext w w' := by
  have aI : (a : Int) < s.size := by omega
  have s1 : (s.size : Int) ≤ 1000 := by omega
  obtain ⟨W1, c, hrun, hcell, hfz, hz, ext, hc⟩ := from_string w s
  obtain ⟨y, hy⟩ : ∃ y, s[a] ^^^ x = y := ⟨_, rfl⟩
  rw [hy]
  have hx : bits .xor .u8 (s[a].toNat : Int) (x.toNat : Int) = (y.toNat : Int) := by
    rw [u8_xor_nat _ _ s[a].toNat_lt x.toNat_lt, ← UInt8.toNat_xor, hy]
  clear hy
  have hback : (convert 42 9 (.slice (some ⟨w.heap.size, 0, none⟩) s.size c)).run Try.prog (W1.setCell ⟨w.heap.size, a, none⟩ (.int .u8 (y.toNat : Int))) = .ok (.string ⟨(s.data.toList.set a y).toArray⟩) (W1.setCell ⟨w.heap.size, a, none⟩ (.int .u8 (y.toNat : Int))) := by
    have := run_convert_bytes_back (P := Try.prog) (W1.setCell ⟨w.heap.size, a, none⟩ (.int .u8 (y.toNat : Int))) 42 9 5 ⟨w.heap.size, 0, none⟩ c (s.data.toList.set a y) (by kernel_rfl) (by kernel_rfl) (by kernel_rfl) (by
      intro j hj
      have hj' : j < s.size := by simpa using hj
      rw [show (⟨w.heap.size, 0, none⟩ : Addr).add j = ⟨w.heap.size, j, none⟩ by simp [Addr.add]; exact fun e => e.symm]
      by_cases e : j = a
      · subst e
        rw [World.cell?_setCell_same _ _ _ (hcell j hj')]
        simp
      · rw [World.cell?_setCell_other _ _ _ _ (by first | (simp; done) | (simp; omega)), hcell j hj']
        have : (s.data.toList.set a y)[j] = s[j] := by rw [List.getElem_set_ne (fun h => e h.symm)]; rfl
        rw [this])
    rw [List.length_set, slen] at this
    exact this
  have c1 := hcell a ha
  have c2 := hfz a ha
  have bx : Ext w (W1.setCell ⟨w.heap.size, a, none⟩ (.int .u8 (y.toNat : Int))) := Below.setCell ext (Nat.le_refl _) _
  have BX := Lib.hid bx
  clear hcell hfz bx ext
  go_enter Try.func24, Try.ntmps24
  go_wp2_with fail
  go_ret
  exact ⟨rfl, BX.out⟩
end Go.Proofs.Ytcjlopnaakiccaa

