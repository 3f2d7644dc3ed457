/-
  The contract of package num's Parse: the number that a text says, or the error number; the world is as it was.
-/
import Derived.Test.YtflalomgifeaaaaDoorNumB
import Derived.Test.YtflalomgifeaaaaDoorShelf
import Derived.Test.YtflalomgifeaaaaDoorParseMath
import Derived.WalkMore
namespace Go.Proofs.YtflalomgifeaaaaDoor
open Go.RowKit
theorem at_byte (D : ByteArray) (k : Nat) (h : k < D.size) : D.data.toList[k]? = some D[k] := by
  rw [Array.getElem?_toList]; exact Array.getElem?_eq_getElem h
theorem head_byte (D : ByteArray) (h : 0 < D.size) : D.data.toList.head? = some D[0] := by
  rw [List.head?_eq_getElem?]; exact at_byte D 0 h
theorem len_byte (D : ByteArray) : D.data.toList.length = D.size := by simp
theorem byte_48 (c : UInt8) : (c.toNat : Int) = 48 ↔ c = 48 := by
  constructor
  · intro h; apply UInt8.toNat_inj.1; show c.toNat = 48; omega
  · intro h; rw [h]; rfl
theorem byte_lt (c : UInt8) : (c.toNat : Int) < 256 := by have := c.toNat_lt; omega
set_option maxRecDepth 100000 in
set_option maxHeartbeats 1000000 in
theorem parse_any (s D : ByteArray) (neg : Bool) (hD : D.size ≤ 9223372036854775807) (w : World)
    (c43 : Hid (∀ w : World, Calls Tryd.prog 43 #[.string s, .string ⟨#[45]⟩] w fun e w' => e = .returned (.tuple #[.string D, .bool neg]) ∧ w = w')) :
    Calls Tryd.prog 28 #[.string s] w fun e w' => e = Res (prs neg D.data.toList) ∧ w = w' := by
  obtain ⟨z, hz⟩ : ∃ z, prs neg D.data.toList = z := ⟨_, rfl⟩
  rw [hz]
  have HZ := Lib.hid hz; clear hz
  go_enter Tryd.func28, Tryd.ntmps28
  go_wp2_with fail
  go_step3
  go_wp2_with fail
  refine (c43.out _).mono ?_; rintro e w' ⟨rfl, rfl⟩
  go_wp2_with fail
  go_step3
  go_wp2_with fail
  go_loop [6, 7, 8] (fun v f i => ∃ (k : Nat) (y : Int) (b : Bool), k ≤ D.size ∧ i = .int .i64 k ∧ v = .int .i64 y ∧ f = .bool b ∧ PRel D.data.toList k y b) (fun _ _ i => D.size - (intOf i).toNat)
  case atStart => exact ⟨0, 0, true, by omega, rfl, rfl, rfl, PRel.start _⟩
  case round =>
    obtain ⟨k, y, b, hk, rfl, rfl, rfl, R⟩ := hrel
    by_cases hlt : k < D.size
    · have hx := at_byte D k hlt
      have x0 : 0 ≤ (D[k].toNat : Int) := by omega
      have x1 := byte_lt D[k]
      cases hd : dgt D[k]
      · have hn : ¬ (48 ≤ (D[k].toNat : Int) ∧ (D[k].toNat : Int) ≤ 57) := fun h => by rw [(dgt_iff _).2 h] at hd; cases hd
        have Z := Lib.hid (HZ.out.symm.trans (prs_bad hx hd))
        clear hx hd R HZ
        rcases (show (D[k].toNat : Int) < 48 ∨ 57 < (D[k].toNat : Int) by omega) with h | h
        · have d1 := dlt_t h
          clear hn
          go_wp2_with fail
          all_goals
            go_ret2
            exact ⟨res_of Z.out, rfl⟩
        · have d1 := dlt_t h
          have d2 : decide ((D[k].toNat : Int) < 48) = false := dlt_f (by omega)
          clear hn
          go_wp2_with fail
          all_goals
            go_ret2
            exact ⟨res_of Z.out, rfl⟩
      · have hr := (dgt_iff _).1 hd
        obtain ⟨h48, h57⟩ := hr
        have d1 : decide ((D[k].toNat : Int) < 48) = false := dlt_f h48
        have d2 : decide (57 < (D[k].toNat : Int)) = false := dlt_f h57
        by_cases hk1 : k = 1
        · subst hk1
          have hh := head_byte D (by omega)
          by_cases h0 : D[0] = 48
          · have e0 := beq_t ((byte_48 _).2 h0)
            have Z := Lib.hid (HZ.out.symm.trans (prs_zero (by rw [hh, h0]) (by rw [len_byte]; omega)))
            have l1 : (1 : Int) < D.size := by omega
            clear hx hd R HZ hh h0
            go_wp2_with fail
            try rw [Exit.noGoto_ret]
            go_ret2
            exact ⟨res_of Z.out, rfl⟩
          · have e0 := beq_f fun h => h0 ((byte_48 _).1 h)
            have nz : D.data.toList.head? ≠ some 48 := by rw [hh]; intro e; exact h0 (Option.some.inj e)
            cases b
            · have N := Lib.hid fun y' => R.next_no (y' := y') hx hd (fun _ => nz)
              clear hx hd R hh h0 nz
              go_wp2_with fail
              go_round
              case rel => exact ⟨2, _, _, by omega, rfl, rfl, rfl, N.out _⟩
              case measure => simp [intOf]; omega
            · have N := Lib.hid (R.next_yes hx hd (fun _ => nz))
              clear hx hd R hh h0 nz
              go_wp2_with fail
              go_round
              case rel => exact ⟨2, _, _, by omega, rfl, rfl, rfl, N.out⟩
              case measure => simp [intOf]; omega
        · have e1 : ((k : Int) == 1) = false := beq_f (by omega)
          cases b
          · have N := Lib.hid fun y' => R.next_no (y' := y') hx hd (fun e => absurd e hk1)
            clear hx hd R hk1
            go_wp2_with fail
            go_round
            case rel => exact ⟨k + 1, _, _, by omega, by go_num, rfl, rfl, N.out _⟩
            case measure => simp [intOf]; omega
          · have N := Lib.hid (R.next_yes hx hd (fun e => absurd e hk1))
            clear hx hd R hk1
            go_wp2_with fail
            go_round
            case rel => exact ⟨k + 1, _, _, by omega, by go_num, rfl, rfl, N.out⟩
            case measure => simp [intOf]; omega
    · have e : k = D.size := by omega
      have hl := len_byte D
      cases neg
      · by_cases h0 : D.size = 0
        · have hnil : D.data.toList = [] := List.eq_nil_of_length_eq_zero (by omega)
          have Z := Lib.hid (HZ.out.symm.trans (by rw [hnil, prs_nil]))
          have hk0 : k = 0 := by omega
          clear R HZ hl e hnil
          subst hk0
          go_wp2_with fail
          go_ret2
          exact ⟨res_of Z.out, rfl⟩
        · subst e
          have k0 : ((D.size : Int) == 0) = false := beq_f (by omega)
          have pe := prs_end (neg := false) (by rw [hl]; exact R) (by omega) (fun h => by cases h.1)
          rw [HZ.out] at pe
          have yb : b = true → -9223372036854775808 ≤ y ∧ y ≤ 0 := fun e => by subst e; exact R.bounds
          clear R HZ hl
          cases b
          · have Z : Hid (z = (0, 3)) := Lib.hid (by rw [pe, if_pos (.inl rfl)])
            clear pe yb
            go_wp2_with fail
            go_ret2
            exact ⟨res_of Z.out, rfl⟩
          · by_cases hy : y = -9223372036854775808
            · have Z : Hid (z = (0, 3)) := Lib.hid (by rw [pe, if_pos (.inr ⟨rfl, hy⟩)])
              have e1 := beq_t hy
              clear pe hy yb
              go_wp2_with fail
              go_ret2
              exact ⟨res_of Z.out, rfl⟩
            · have Z : Hid (z = (-y, 0)) := Lib.hid (by rw [pe, if_neg (by simp [hy]), if_neg (by simp)])
              have e1 := beq_f hy
              have yl : -9223372036854775808 < y := by have := yb rfl; omega
              have yu : y ≤ 0 := (yb rfl).2
              clear pe hy yb
              go_wp2_with fail
              go_ret2
              exact ⟨res_of Z.out, rfl⟩
      · by_cases h0 : D.size = 0
        · have hnil : D.data.toList = [] := List.eq_nil_of_length_eq_zero (by omega)
          have Z := Lib.hid (HZ.out.symm.trans (by rw [hnil, prs_nil]))
          have hk0 : k = 0 := by omega
          clear R HZ hl e hnil
          subst hk0
          go_wp2_with fail
          go_ret2
          exact ⟨res_of Z.out, rfl⟩
        · subst e
          have k0 : ((D.size : Int) == 0) = false := beq_f (by omega)
          by_cases hz : D.data.toList = [48]
          · have hzb : (D.toList == [48]) = true := by rw [Lib.toList_data, hz]; rfl
            have Z := Lib.hid (HZ.out.symm.trans (by rw [hz, prs_minus_zero]))
            clear R HZ hl hz
            go_wp2_with fail
            all_goals
              go_ret2
              exact ⟨res_of Z.out, rfl⟩
          · have hzb : (D.toList == [48]) = false := by rw [Lib.toList_data]; simpa using hz
            have pe := prs_end (neg := true) (by rw [hl]; exact R) (by omega) (fun h => hz h.2)
            rw [HZ.out] at pe
            clear R HZ hl hz
            cases b
            · have Z : Hid (z = (0, 3)) := Lib.hid (by rw [pe, if_pos (.inl rfl)])
              clear pe
              go_wp2_with fail
              go_ret2
              exact ⟨res_of Z.out, rfl⟩
            · have Z : Hid (z = (y, 0)) := Lib.hid (by rw [pe, if_neg (by simp), if_pos rfl])
              clear pe
              go_wp2_with fail
              go_ret2
              exact ⟨res_of Z.out, rfl⟩
theorem parts_minus {s : ByteArray} {ds : List UInt8} (h : s.data.toList = 45 :: ds) : Lib.trimPrefix s.data.toList [45] = ds ∧ Lib.hasPrefix s.data.toList [45] = true := by
  rw [h]; exact ⟨by simp [Lib.trimPrefix, Lib.hasPrefix, List.isPrefixOf], by simp [Lib.hasPrefix, List.isPrefixOf]⟩
/-- The sign and the digits of a text. -/
def cut (l : List UInt8) : Bool × List UInt8 := (Lib.hasPrefix l [45], Lib.trimPrefix l [45])
theorem cut_len (l : List UInt8) : (cut l).2.length ≤ l.length := by
  unfold cut Lib.trimPrefix; split <;> simp
/-- additive/num.Parse -/
theorem num_Parse (s : ByteArray) (hs : s.size ≤ 9223372036854775807) (w : World) :
    Calls Tryd.prog 28 #[.string s] w fun e w' => e = Res (prs (cut s.data.toList).1 (cut s.data.toList).2) ∧ w = w' := by
  have c := parse_any s ⟨(cut s.data.toList).2.toArray⟩ (cut s.data.toList).1 (by
    show (cut s.data.toList).2.toArray.size ≤ _
    have := cut_len s.data.toList
    rw [len_byte] at this
    simpa using Nat.le_trans this hs) w (Lib.hid fun w => (Tryd.strings_CutPrefix s ⟨#[45]⟩ w).mono fun e w' ⟨he, hw⟩ => ⟨he, hw.symm⟩)
  simpa using c
end Go.Proofs.YtflalomgifeaaaaDoor
