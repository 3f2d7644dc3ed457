/-
  Out of elder texts: NumA, Fmt0, RefF.
-/
import Derived.Test.YtadpmcdokgdefaaDoorChecked
import Derived.Test.YtadpmcdokgdefaaDoorArith
import Derived.WalkKit
import Derived.WalkLawsBesides
import Derived.ProofKit
import Derived.Lib.Hide
import Derived.Deep.QuietTactic
import Derived.BigQuiet
import Derived.Test.YtadpmcdokgdefaaDoorShelf
import Derived.Test.YtadpmcdokgdefaaDoorBas
import Derived.Test.YtadpmcdokgdefaaDoorBase
import Derived.Lib.ItoaNum
import Derived.Laws.BytesString
import Derived.Laws.Cells
namespace Go.Proofs.YtadpmcdokgdefaaDoor
open Go.RowKit

/-- additive/additiveref01.size: the size of a number, as a uint64. -/
theorem ref_size (n : Int) (h0 : -9223372036854775808 ≤ n) (h1 : n ≤ 9223372036854775807) (w : World) :
    Calls Tryd.prog 27 #[.int .i64 n] w fun e w' => e = .returned (.int .u64 (n.natAbs : Int)) ∧ w = w' := by
  by_cases h : n < 0
  · have e : IntKind.u64.wrap (-IntKind.u64.wrap n) = (n.natAbs : Int) := by simp only [Go.IntKind.wrap_u64]; omega
    go_enter Tryd.func27, Tryd.ntmps27
    go_wp2
    go_ret
    exact ⟨ret1 (by first | exact e | rfl), rfl⟩
  · have h' : 0 ≤ n := by omega
    go_enter Tryd.func27, Tryd.ntmps27
    go_wp2
    go_ret
    exact ⟨ret1 (show n = (n.natAbs : Int) by omega), rfl⟩

open Go.RowKit
theorem num_Format (n : Int) (h0 : -9223372036854775808 ≤ n) (h1 : n ≤ 9223372036854775807) (w : World) (hb : Bas w) :
    Calls Tryd.prog 23 #[.int .i64 n] w fun e w' => e = .returned (.string ⟨(Lib.itoa n).toArray⟩) ∧ Ext w w' := by
  have ht := hb Tryd.prog (by kernel_rfl)
  have c := Lib.hid (Tryd.strconv_Itoa n h0 h1 w ht)
  go_enter Tryd.func23, Tryd.ntmps23
  go_wp2_with fail
  refine c.out.mono ?_; rintro e w' ⟨rfl, k, os, rfl⟩
  go_wp2_with fail
  go_ret
  exact ⟨rfl, ((Ext.refl _).drewN k).grow os⟩
open Go.RowKit
def boolNat : Value → Nat | .bool true => 1 | _ => 0
theorem byte_string (x : Int) (W : World) :
    (convert 48 9 (.slice (some ⟨W.heap.size, 0, none⟩) 1 1)).run Tryd.prog (W.alloc (.cells #[.int .u8 x] 5)) = .ok (.string ⟨#[UInt8.ofNat x.toNat]⟩) (W.alloc (.cells #[.int .u8 x] 5)) := by
  rw [run_convert_bytes_string _ _ _ 5 _ _ _ (by kernel_rfl) (by kernel_rfl) (by kernel_rfl)]
  have h := run_loadCells_list (P := Tryd.prog) (w := W.alloc (.cells #[.int .u8 x] 5)) ⟨W.heap.size, 0, none⟩ [.int .u8 x] (by
    intro j v hj
    match j, hj with
    | 0, hj =>
      simp at hj
      subst hj
      show (W.alloc (.cells #[.int .u8 x] 5)).cell? ⟨W.heap.size, 0 + 0, none⟩ = _
      go_simp
    | j + 1, hj => simp at hj)
  exact run_bytesToString _ _ 1 1 [x] h
theorem str_cons (c : UInt8) (S : List UInt8) : (⟨#[c]⟩ : ByteArray) ++ ⟨S.toArray⟩ = ⟨(c :: S).toArray⟩ := by
  apply ByteArray.ext
  rw [ByteArray.data_append]
  simp
theorem digit_of (v : Int) (h : 0 ≤ v) : UInt8.ofNat (48 + v % 10).toNat = UInt8.ofNat (48 + v.toNat % 10) := by
  rw [show (48 + v % 10).toNat = 48 + v.toNat % 10 by omega]
theorem dec_step (v : Int) (h : 0 ≤ v) (S : List UInt8) :
    (0 < v / 10 → Lib.decDigits (v / 10).toNat ++ (UInt8.ofNat (48 + v % 10).toNat :: S) = Lib.decDigits v.toNat ++ S) ∧ (v / 10 = 0 → UInt8.ofNat (48 + v % 10).toNat :: S = Lib.decDigits v.toNat ++ S) := by
  rw [digit_of v h]
  refine ⟨fun h1 => ?_, fun h1 => ?_⟩
  · conv => rhs; rw [Lib.decDigits, dif_neg (by omega)]
    rw [List.append_assoc, show (v / 10).toNat = v.toNat / 10 by omega]; rfl
  · rw [Lib.decDigits, dif_pos (by omega), Nat.mod_eq_of_lt (by omega)]; rfl
theorem dec_len (U : Nat) (h : U ≤ 9223372036854775808) : (Lib.decDigits U).length ≤ 20 := by
  rw [Lib.decDigits_length]
  by_cases h0 : 1 ≤ U
  · have := Lib.numDigits_eq U h0 (by omega)
    have := this.1
    split at this <;> omega
  · rw [Lib.nDigits_small (by omega)]; omega
set_option maxRecDepth 100000 in
theorem ref_digits (n : Int) (z : List UInt8) (U : Nat) (hU : U ≤ 9223372036854775808) (hz : z = if n < 0 then 45 :: Lib.decDigits U else Lib.decDigits U) (w : World)
    (c34 : Hid (∀ w : World, Calls Tryd.prog 27 #[.int .i64 n] w fun e w' => e = .returned (.int .u64 (U : Int)) ∧ w = w')) :
    Calls Tryd.prog 25 #[.int .i64 n] w fun e w' => e = .returned (.string ⟨z.toArray⟩) ∧ Ext w w' := by
  have HZ := Lib.hid hz; clear hz
  have D := Lib.hid dec_step
  obtain ⟨T, hT⟩ : ∃ T, Lib.decDigits U = T := ⟨_, rfl⟩
  have tl : T.length ≤ 20 := by rw [← hT]; exact dec_len U hU
  have HT := Lib.hid hT; clear hT
  have SC := Lib.hid str_cons
  go_enter Tryd.func25, Tryd.ntmps25
  go_wp2_with fail
  refine (c34.out _).mono ?_; rintro e w' ⟨rfl, rfl⟩
  go_wp2_with fail
  go_loopw [3, 4, 5] (fun s u b wr => ∃ (v : Int) (S : List UInt8) (c : Bool), s = .string ⟨S.toArray⟩ ∧ u = .int .u64 v ∧ b = .bool c ∧ 0 ≤ v ∧ v ≤ 9223372036854775808 ∧ (c = true → Lib.decDigits v.toNat ++ S = T) ∧ (c = false → S = T) ∧ Ext w wr) (fun _ u b _ => (intOf u).toNat + boolNat b)
  case atStart => exact ⟨U, [], true, rfl, rfl, rfl, by omega, by omega, (fun _ => by rw [List.append_nil]; exact HT.out), (fun h => by cases h), Ext.refl _⟩
  case round =>
    obtain ⟨v, S, c, rfl, rfl, rfl, v0, v1, h1, h2, hx⟩ := hrel
    cases c
    · have hs := h2 rfl
      subst hs
      clear h1 h2
      by_cases hn : n < 0
      · have F : Hid ((⟨#[45]⟩ : ByteArray) ++ ⟨S.toArray⟩ = ⟨z.toArray⟩) := Lib.hid (by rw [HZ.out, if_pos hn, HT.out, str_cons])
        have dn := dlt_t hn
        clear HT
        go_wp2_with fail
        all_goals first
          | (exfalso; omega)
          | (go_ret; exact ⟨congrArg (fun x => Ending.returned (Value.string x)) F.out, hx⟩)
      · have F : Hid ((⟨S.toArray⟩ : ByteArray) = ⟨z.toArray⟩) := Lib.hid (by rw [HZ.out, if_neg hn, HT.out])
        have dn := dlt_f (show (0 : Int) ≤ n by omega)
        have hn' : 0 ≤ n := by omega
        clear HT hn
        go_wp2_with fail
        go_ret
        exact ⟨congrArg (fun x => Ending.returned (Value.string x)) F.out, hx⟩
    · have hb := byte_string (48 + v % 10) wr
      have h := h1 rfl
      obtain ⟨d1, d2⟩ := D.out v v0 S
      have sl : S.length ≤ 20 := by
        have := congrArg List.length h
        rw [List.length_append] at this
        omega
      rw [h] at d1 d2
      have E1 := Lib.hid d1; have E2 := Lib.hid d2
      clear h1 h2 h d1 d2
      by_cases hv : 0 < v / 10
      · have dv := dlt_t hv
        go_wp2_with fail
        go_roundw
        case rel => exact ⟨_, _, true, by rw [str_cons], rfl, rfl, by omega, by omega, fun _ => E1.out hv, (fun h => by cases h), hx.alloc _⟩
        case measure => simp [intOf, boolNat]; omega
      · have dv := dlt_f (show v / 10 ≤ 0 by omega)
        go_wp2_with fail
        go_roundw
        case rel => exact ⟨_, _, false, by rw [str_cons], rfl, rfl, by omega, by omega, (fun h => by cases h), fun _ => E2.out (by omega), hx.alloc _⟩
        case measure => simp [intOf, boolNat]; omega
/-- additive/additiveref01.Format -/
theorem ref_Format (n : Int) (h0 : -9223372036854775808 ≤ n) (h1 : n ≤ 9223372036854775807) (w : World) :
    Calls Tryd.prog 25 #[.int .i64 n] w fun e w' => e = .returned (.string ⟨(Lib.itoa n).toArray⟩) ∧ Ext w w' :=
  ref_digits n (Lib.itoa n) n.natAbs (by omega) (by
    unfold Lib.itoa
    by_cases h : n < 0
    · rw [if_pos h, if_pos h]
    · rw [if_neg h, if_neg h, show n.toNat = n.natAbs by omega]) w (Lib.hid (ref_size n h0 h1))
end Go.Proofs.YtadpmcdokgdefaaDoor
