/-
  Contracts of package sum's seals: the bytes of a CRC16, sealing and opening; and of the document's own answers.
-/
import Derived.Test.YtcjlopnaakiccaaSumB
import Derived.Test.YtcjlopnaakiccaaBytesMem
import Derived.Deep.RegionWith
import Derived.Lib.Strings
namespace Go.Proofs.Ytcjlopnaakiccaa
open Go.RowKit
theorem own_two (w : World) (a b : UInt8) : Own (w.alloc (.cells #[.int .u8 (a.toNat : Int), .int .u8 (b.toNat : Int)] 5)) w.heap.size 2 [a, b] :=
  World.ownsRow_lit w #[.int .u8 (a.toNat : Int), .int .u8 (b.toNat : Int)] 2 (Nat.le_refl _) (by unfold maxLen; omega) rfl
theorem str_app (a b : List UInt8) : (⟨a.toArray⟩ : ByteArray) ++ ⟨b.toArray⟩ = ⟨(a ++ b).toArray⟩ := by
  apply ByteArray.ext
  rw [ByteArray.data_append]
  simp
theorem str_of (s : ByteArray) : (⟨s.data.toList.toArray⟩ : ByteArray) = s := by simp
set_option maxHeartbeats 1000000 in
/-- additive/sum.seal -/
theorem sum_seal (s : ByteArray) (hs : (s.size : Int) ≤ 9223372036854775807) (w : World) :
    Calls Try.prog 28 #[.string s] w fun e w' => e = .returned (.string ⟨(sealB s.data.toList).toArray⟩) ∧ Ext w w' := by
  have C := Lib.hid fun w => sum_CRC16 s hs w
  have hb := crcN_lt s.data.toList
  obtain ⟨t1, t2⟩ := sealB_to s.data.toList
  have st := (own_two w (UInt8.ofNat (crcN s.data.toList / 256)) (UInt8.ofNat (crcN s.data.toList % 256))).string
  rw [t1, t2] at st
  have Z : Hid (sealB s.data.toList = [UInt8.ofNat (crcN s.data.toList / 256), UInt8.ofNat (crcN s.data.toList % 256)]) := Lib.hid rfl
  generalize crcN s.data.toList = c at *
  have c0 : (c : Int) < 65536 := by omega
  rw [show ((c / 256 : Nat) : Int) = (c : Int) / 256 by omega, show ((c % 256 : Nat) : Int) = (c : Int) % 256 by omega] at st
  clear t1 t2 hb
  go_enter Try.func28, Try.ntmps28
  go_wp2_with fail
  refine (C.out _).mono ?_; rintro e w' ⟨rfl, rfl⟩
  go_wp2_with fail
  go_ret
  exact ⟨by rw [Z.out]; rfl, (Ext.refl _).alloc _⟩
theorem ret_s {a b : ByteArray} (h : a = b) : Ending.returned (.string a) = .returned (.string b) := by rw [h]
/-- additive/sum.Seal -/
theorem sum_Seal (s : ByteArray) (hs : (s.size : Int) ≤ 1000) (w : World) :
    Calls Try.prog 22 #[.string s] w fun e w' => e = .returned (.string ⟨(s.data.toList ++ sealB s.data.toList).toArray⟩) ∧ Ext w w' := by
  have C := sum_seal s (by omega) w
  have ap := str_app s.data.toList (sealB s.data.toList)
  rw [str_of] at ap
  have bs : (⟨(sealB s.data.toList).toArray⟩ : ByteArray).size = 2 := rfl
  generalize (⟨(sealB s.data.toList).toArray⟩ : ByteArray) = t at *
  have AP := Lib.hid ap
  have b2 : (t.size : Int) ≤ 2 := by omega
  have s2 : s.size ≤ 1000 := by omega
  have t2 : t.size ≤ 2 := by omega
  have C' := Lib.hid C
  clear ap bs C
  go_enter Try.func22, Try.ntmps22
  go_wp2_with fail
  refine C'.out.mono ?_; rintro e w1 ⟨rfl, h1⟩
  go_wp2_with fail
  all_goals first
    | (exfalso; omega)
    | (go_ret; exact ⟨ret_s AP.out, h1⟩)
set_option maxHeartbeats 1000000 in
/-- additiveref03.Seal -/
theorem ref_Seal (s : ByteArray) (hs : (s.size : Int) ≤ 1000) (w : World) :
    Calls Try.prog 23 #[.string s] w fun e w' => e = .returned (.string ⟨(s.data.toList ++ sealB s.data.toList).toArray⟩) ∧ Ext w w' := by
  have C := Lib.hid fun w => ref_CRC16 s (by omega) w
  have hb := crcN_lt s.data.toList
  obtain ⟨t1, t2⟩ := sealB_to s.data.toList
  have st := (own_two w (UInt8.ofNat (crcN s.data.toList / 256)) (UInt8.ofNat (crcN s.data.toList % 256))).string
  rw [t1, t2] at st
  have Z : [UInt8.ofNat (crcN s.data.toList / 256), UInt8.ofNat (crcN s.data.toList % 256)] = sealB s.data.toList := rfl
  rw [Z] at st
  have ap := str_app s.data.toList (sealB s.data.toList)
  rw [str_of] at ap
  have bs : (⟨(sealB s.data.toList).toArray⟩ : ByteArray).size = 2 := rfl
  generalize crcN s.data.toList = c at *
  generalize (⟨(sealB s.data.toList).toArray⟩ : ByteArray) = t at *
  have AP := Lib.hid ap
  have b2 : (t.size : Int) ≤ 2 := by omega
  have s2 : s.size ≤ 1000 := by omega
  have t2 : t.size ≤ 2 := by omega
  have c0 : (c : Int) < 65536 := by omega
  rw [show ((c / 256 : Nat) : Int) = (c : Int) / 256 by omega, show ((c % 256 : Nat) : Int) = (c : Int) % 256 by omega] at st
  clear t1 t2 hb Z ap bs
  go_enter Try.func23, Try.ntmps23
  go_wp2_with fail
  refine (C.out _).mono ?_; rintro e w' ⟨rfl, rfl⟩
  go_wp2_with fail
  all_goals first
    | (exfalso; omega)
    | (go_ret; exact ⟨ret_s AP.out, (Ext.refl _).alloc _⟩)
/-- What Open answers. -/
def openS (l : List UInt8) : List UInt8 × Int :=
  if l.length < 2 then ([], 6) else if l.drop (l.length - 2) = sealB (l.take (l.length - 2)) then (l.take (l.length - 2), 0) else ([], 7)
def ResS (p : List UInt8 × Int) : Ending := .returned (.tuple #[.string ⟨p.1.toArray⟩, .int .i64 p.2])
theorem slen (s : ByteArray) : s.data.toList.length = s.size := by simp
theorem slice_lo (W : World) (s : ByteArray) (l : Int) (h0 : 0 ≤ l) (h1 : l ≤ s.size) :
    (Instr.slice 9 (.string s) (some (.int .i64 l)) none none).run Try.prog W = .ok (.string (s.extract l.toNat s.size)) W := by
  have ht : Try.prog.underlying 9 = some .string := by kernel_rfl
  have e : (Instr.sliceBound (.int .i64 l) s.size .sliceB).run Try.prog W = .ok l.toNat W := run_sliceBound _ _ _ _ _ h0 h1
  simp [Instr.slice, run_underlying ht, Instr.sliceBounds, *]
theorem slice_hi (W : World) (s : ByteArray) (h : Int) (h0 : 0 ≤ h) (h1 : h ≤ s.size) :
    (Instr.slice 9 (.string s) none (some (.int .i64 h)) none).run Try.prog W = .ok (.string (s.extract 0 h.toNat)) W := by
  have ht : Try.prog.underlying 9 = some .string := by kernel_rfl
  have e : (Instr.sliceBound (.int .i64 h) s.size .sliceAlen).run Try.prog W = .ok h.toNat W := run_sliceBound _ _ _ _ _ h0 h1
  simp [Instr.slice, run_underlying ht, Instr.sliceBounds, *]
theorem cut_lo (s : ByteArray) (n : Nat) : s.extract 0 n = ⟨(s.data.toList.take n).toArray⟩ := by
  apply ByteArray.ext; apply Array.toList_inj.1
  rw [Lib.extract_data]; simp
theorem cut_hi (s : ByteArray) (n : Nat) : s.extract n s.size = ⟨(s.data.toList.drop n).toArray⟩ := by
  apply ByteArray.ext; apply Array.toList_inj.1
  rw [Lib.extract_data]
  simp
  exact List.take_of_length_le (by simp)
theorem bytes_inj {a b : List UInt8} : ((⟨a.toArray⟩ : ByteArray) = ⟨b.toArray⟩) ↔ a = b :=
  ⟨fun e => by have := congrArg (fun t : ByteArray => t.data.toList) e; simpa using this, fun e => by rw [e]⟩
theorem toList_inj {a b : ByteArray} (h : a.toList = b.toList) : a = b := by
  rw [ByteArray.toList_eq, ByteArray.toList_eq] at h
  exact ByteArray.ext (Array.toList_inj.1 h)
theorem resS_of {p : List UInt8 × Int} {l : List UInt8} {y : Int} (h : p = (l, y)) : Ending.returned (.tuple #[.string ⟨l.toArray⟩, .int .i64 y]) = ResS p := by rw [h]; rfl
theorem resS_at {p : List UInt8 × Int} {l : List UInt8} {y : Int} {s : ByteArray} (h : p = (l, y)) (e : s = ⟨l.toArray⟩) : Ending.returned (.tuple #[.string s, .int .i64 y]) = ResS p := by rw [e]; exact resS_of h
set_option maxHeartbeats 1000000 in
/-- additive/sum.Open -/
theorem sum_Open (s : ByteArray) (hs : (s.size : Int) ≤ 1000) (w : World) :
    Calls Try.prog 20 #[.string s] w fun e w' => e = ResS (openS s.data.toList) ∧ Ext w w' := by
  have sl := slen s
  by_cases h2 : s.size < 2
  · have Z : Hid (openS s.data.toList = ([], 6)) := Lib.hid (by unfold openS; rw [sl, if_pos h2])
    have d : decide ((s.size : Int) < 2) = true := dlt_t (by omega)
    clear sl
    go_enter Try.func20, Try.ntmps20
    go_wp2_with fail
    go_ret2
    exact ⟨resS_of Z.out, Ext.refl _⟩
  have d : decide ((s.size : Int) < 2) = false := dlt_f (by omega)
  have r1 := fun W => slice_lo W s ((s.size : Int) - 2) (by omega) (by omega)
  have r2 := fun W => slice_hi W s ((s.size : Int) - 2) (by omega) (by omega)
  rw [show ((s.size : Int) - 2).toNat = s.size - 2 by omega] at r1 r2
  have tl : (s.extract 0 (s.size - 2)).data.toList = s.data.toList.take (s.size - 2) := by rw [cut_lo]
  have sz : ((s.extract 0 (s.size - 2)).size : Int) ≤ 1000 := by
    have : (s.extract 0 (s.size - 2)).data.toList.length = (s.extract 0 (s.size - 2)).size := slen _
    rw [tl, List.length_take] at this; omega
  have C := fun W => sum_seal (s.extract 0 (s.size - 2)) (by omega) W
  rw [tl] at C
  have hz : 0 ≤ (s.size : Int) - 2 := by omega
  by_cases h : s.data.toList.drop (s.size - 2) = sealB (s.data.toList.take (s.size - 2))
  · have Z : Hid (openS s.data.toList = (s.data.toList.take (s.size - 2), 0)) := Lib.hid (by unfold openS; rw [sl, if_neg h2, if_pos h])
    have eq : s.extract (s.size - 2) s.size = ⟨(sealB (s.data.toList.take (s.size - 2))).toArray⟩ := by rw [cut_hi, h]
    rw [← eq] at C
    have CL := Lib.hid (cut_lo s (s.size - 2))
    generalize s.extract (s.size - 2) s.size = p at *
    generalize s.extract 0 (s.size - 2) = q at *
    have C' := Lib.hid C
    have R1 := Lib.hid r1
    clear sl C eq h tl h2
    go_enter Try.func20, Try.ntmps20
    go_wp2_with fail
    go_region_with (go_at_call 28; refine (C'.out _).mono ?_; rintro e w1 ⟨rfl, h1⟩)
    all_goals
      go_wp2_with fail
      go_ret2
      exact ⟨resS_at Z.out CL.out, ((Ext.refl _).drew).trans h1⟩
  · have Z : Hid (openS s.data.toList = ([], 7)) := Lib.hid (by unfold openS; rw [sl, if_neg h2, if_neg h])
    have ne : s.extract (s.size - 2) s.size ≠ ⟨(sealB (s.data.toList.take (s.size - 2))).toArray⟩ := by rw [cut_hi]; exact fun e => h (bytes_inj.1 e)
    obtain ⟨u, hu⟩ : ∃ u : ByteArray, ⟨(sealB (s.data.toList.take (s.size - 2))).toArray⟩ = u := ⟨_, rfl⟩
    rw [hu] at C ne
    generalize s.extract (s.size - 2) s.size = p at *
    generalize s.extract 0 (s.size - 2) = q at *
    have df : (p.toList == u.toList) = false := by
      rw [beq_eq_false_iff_ne]; exact fun e => ne (toList_inj e)
    have C' := Lib.hid C
    clear sl C h tl h2 ne hu
    go_enter Try.func20, Try.ntmps20
    go_wp2_with fail
    go_region_with (go_at_call 28; refine (C'.out _).mono ?_; rintro e w1 ⟨rfl, h1⟩)
    all_goals
      go_wp2_with fail
      go_ret2
      exact ⟨resS_of Z.out, ((Ext.refl _).drew).trans h1⟩
end Go.Proofs.Ytcjlopnaakiccaa

