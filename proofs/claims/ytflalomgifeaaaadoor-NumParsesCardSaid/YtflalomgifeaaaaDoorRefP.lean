/-
  The contract of the document's own Parse: the number that a text says, or the error number; the world is as it was.
-/
import Derived.Test.YtflalomgifeaaaaDoorNumP
namespace Go.Proofs.YtflalomgifeaaaaDoor
open Go.RowKit
theorem val_take_le (l : List UInt8) (k : Nat) : val (l.take k) ≤ val l := by
  have grow : ∀ (r : List UInt8) (a b : Nat), a ≤ b → a ≤ r.foldl (fun a c => 10 * a + (c.toNat - 48)) b := by
    intro r
    induction r with
    | nil => intro a b h; exact h
    | cons c r ih => intro a b h; exact ih a _ (by show a ≤ 10 * b + _; omega)
  unfold val
  conv => rhs; rw [← List.take_append_drop k l, List.foldl_append]
  exact grow _ _ _ (Nat.le_refl _)
/-- Where the digits say too much. -/
theorem prs_much {neg : Bool} {l : List UInt8} {k : Nat} {y : Int} {c : UInt8} (hd : l.all dgt = true) (hl : l ≠ []) (hz : l.head? = some 48 → neg = false ∧ l.length < 2)
    (h : PRel l k y true) (hk : l[k]? = some c) (hc : dgt c = true) (hy : y < (-9223372036854775808 + ((c.toNat : Int) - 48)).tdiv 10) : prs neg l = (0, 3) := by
  have hv : val (l.take k) ≤ 9223372036854775808 := of_decide_eq_true h.fits.symm
  have hr := (dgt_iff c).1 hc
  obtain ⟨s1, _⟩ := step_fits (V := (val (l.take k) : Int)) (d := (c.toNat : Int) - 48) (h.value rfl) (by omega) (by omega) (by omega) (by omega)
  have e : ((10 * val (l.take k) + (c.toNat - 48) : Nat) : Int) = 10 * (val (l.take k) : Int) + ((c.toNat : Int) - 48) := by omega
  have g : 9223372036854775808 < 10 * val (l.take k) + (c.toNat - 48) := by
    rcases Nat.lt_or_ge 9223372036854775808 (10 * val (l.take k) + (c.toNat - 48)) with u | u
    · exact u
    · have := s1.2 (by omega); omega
  have g2 : 9223372036854775808 < val l := by
    have := val_take_le l (k + 1)
    rw [take_one hk, val_snoc] at this
    omega
  unfold prs
  rw [if_neg, if_neg (show ¬ val l ≤ 9223372036854775808 by omega), if_neg (show ¬ val l < 9223372036854775808 by omega), ite_self]
  intro h
  rcases h with h | ⟨h, h2⟩ | h
  · exact hl h
  · obtain ⟨a, b⟩ := hz h
    rcases h2 with h2 | h2
    · rw [a] at h2; cases h2
    · omega
  · rw [hd] at h; cases h
theorem byte_45 (c : UInt8) : (c.toNat : Int) = 45 ↔ c = 45 := by
  constructor
  · intro h; apply UInt8.toNat_inj.1; show c.toNat = 45; omega
  · intro h; rw [h]; rfl
theorem drop_at (s : ByteArray) (f j : Nat) (hf : f ≤ j) (h : j < s.size) : (s.data.toList.drop f)[j - f]? = some s[j] := by
  rw [List.getElem?_drop, show f + (j - f) = j by omega]; exact at_byte s j h
theorem drop_len (s : ByteArray) (f : Nat) : (s.data.toList.drop f).length = s.size - f := by
  rw [List.length_drop, len_byte]
set_option maxRecDepth 100000 in
set_option maxHeartbeats 1000000 in
theorem ref_parse0 (s : ByteArray) (hs : s.size ≤ 9223372036854775807) (hf : 0 < s.size) (hm : s[0] ≠ 45) (hz : s[0] = 48 → s.size = 1) (w : World) :
    Calls Tryd.prog 30 #[.string s] w fun e w' => e = Res (prs false (s.data.toList.drop 0)) ∧ w = w' := by
  have e0 : ((s[0].toNat : Int) == 45) = false := beq_f fun h => hm ((byte_45 _).1 h)
  have l0 : (0 : Int) < s.size := by omega
  have sz : ((s.size : Int) == 0) = false := beq_f (by omega)
  have zz : ((s[0].toNat : Int) == 48) = false ∨ (((s[0].toNat : Int) == 48) = true ∧ decide ((1 : Int) < s.size) = false) := by
    by_cases h : s[0] = 48
    · exact .inr ⟨beq_t ((byte_48 _).2 h), dlt_f (by have := hz h; omega)⟩
    · exact .inl (beq_f fun e => h ((byte_48 _).1 e))
  have hh : ∀ k, k = 1 → k < s.size → (s.data.toList.drop 0).head? ≠ some 48 := fun k _ hk h => by
    rw [List.drop_zero, head_byte s (by omega)] at h
    have := hz (Option.some.inj h)
    omega
  have hz' : (s.data.toList.drop 0).head? = some 48 → (s.data.toList.drop 0).length < 2 := fun h => by rw [List.drop_zero] at h ⊢; rw [head_byte s (by omega)] at h; have := hz (Option.some.inj h); rw [len_byte]; omega
  have hne : s.data.toList.drop 0 ≠ [] := fun h => by have := drop_len s 0; rw [h] at this; simp at this; omega
  have dl := drop_len s 0
  have da := drop_at s 0
  obtain ⟨ds, hds⟩ : ∃ ds, s.data.toList.drop 0 = ds := ⟨_, rfl⟩
  rw [hds] at hh hz' hne dl da ⊢
  obtain ⟨z, ez⟩ : ∃ z, prs false ds = z := ⟨_, rfl⟩
  rw [ez]
  have EZ := Lib.hid ez; have HH := Lib.hid hh; have HZ := Lib.hid hz'; have HN := Lib.hid hne; have DL := Lib.hid dl; have DA := Lib.hid da
  clear ez hh hz' hne dl da hds hz hm
  rcases zz with z1 | ⟨z1, z2⟩
  all_goals
    go_enter Tryd.func30, Tryd.ntmps30
    go_wp2_with fail
    go_loop [5] (fun i => ∃ j : Nat, 0 ≤ j ∧ j ≤ s.size ∧ i = .int .i64 j ∧ (ds.take (j - 0)).all dgt = true) (fun i => s.size - (intOf i).toNat)
    case atStart => exact ⟨0, Nat.le_refl _, by omega, rfl, rfl⟩
    case round =>
      obtain ⟨j, j0, j1, rfl, R⟩ := hrel
      by_cases hlt : j < s.size
      · have hx := DA.out j j0 hlt
        have x0 : 0 ≤ (s[j].toNat : Int) := by omega
        have x1 := byte_lt s[j]
        have jl : (j : Int) < s.size := by omega
        cases hd : dgt s[j]
        · have hn : ¬ (48 ≤ (s[j].toNat : Int) ∧ (s[j].toNat : Int) ≤ 57) := fun h => by rw [(dgt_iff _).2 h] at hd; cases hd
          have Z := Lib.hid (EZ.out.symm.trans (prs_bad hx hd))
          clear hx hd R
          rcases (show (s[j].toNat : Int) < 48 ∨ 57 < (s[j].toNat : Int) by omega) with h | h
          · have d1 := dlt_t h
            clear hn
            go_wp2_with fail
            go_ret2
            exact ⟨res_of Z.out, rfl⟩
          · have d1 := dlt_t h
            have d2 : decide ((s[j].toNat : Int) < 48) = false := dlt_f (by omega)
            clear hn
            go_wp2_with fail
            go_ret2
            exact ⟨res_of Z.out, rfl⟩
        · obtain ⟨h48, h57⟩ := (dgt_iff _).1 hd
          have d1 : decide ((s[j].toNat : Int) < 48) = false := dlt_f h48
          have d2 : decide (57 < (s[j].toNat : Int)) = false := dlt_f h57
          have N : Hid ((ds.take (j + 1 - 0)).all dgt = true) := Lib.hid (by
            rw [show j + 1 - 0 = (j - 0) + 1 by omega, take_one hx, List.all_append, R]; simp [hd])
          clear hx hd R
          go_wp2_with fail
          go_round
          case rel => exact ⟨j + 1, by omega, by omega, by go_num, N.out⟩
          case measure => simp [intOf]; omega
      · have hj : j = s.size := by omega
        subst hj
        rw [show s.size - 0 = ds.length from DL.out.symm, List.take_length] at R
        have AD := Lib.hid R
        clear R hlt j1
        go_wp2_with fail
        go_loop [6, 7] (fun n i => ∃ (j : Nat) (y : Int), 0 ≤ j ∧ j ≤ s.size ∧ i = .int .i64 j ∧ n = .int .i64 y ∧ PRel ds (j - 0) y true) (fun _ i => s.size - (intOf i).toNat)
        case atStart => exact ⟨0, 0, Nat.le_refl _, by omega, rfl, rfl, PRel.start _⟩
        case round =>
          obtain ⟨j, y, k0, k1, rfl, rfl, R⟩ := hrel
          obtain ⟨y0, y1⟩ := R.bounds
          by_cases hlt : j < s.size
          · have hx := DA.out j k0 hlt
            have hd : dgt s[j] = true := List.all_eq_true.1 AD.out _ (List.mem_of_getElem? hx)
            obtain ⟨h48, h57⟩ := (dgt_iff _).1 hd
            have x1 := byte_lt s[j]
            have jl : (j : Int) < s.size := by omega
            by_cases hy : y < (-9223372036854775808 + ((s[j].toNat : Int) - 48)).tdiv 10
            · have Z := Lib.hid (EZ.out.symm.trans (prs_much AD.out HN.out (fun h => ⟨rfl, HZ.out h⟩) R hx hd hy))
              have dy := dlt_t hy
              clear R hx hd
              go_wp2_with fail
              go_ret2
              exact ⟨res_of Z.out, rfl⟩
            · have hy' : (-9223372036854775808 + ((s[j].toNat : Int) - 48)).tdiv 10 ≤ y := by omega
              have dy := dlt_f hy'
              have N := R.next_yes hx hd (fun e => HH.out (j - 0) e (by omega))
              rw [dle_t hy', show j - 0 + 1 = j + 1 - 0 by omega] at N
              have N' := Lib.hid N
              clear R hx hd hy N
              go_wp2_with fail
              go_round
              case rel => exact ⟨j + 1, _, by omega, by omega, by go_num, rfl, N'.out⟩
              case measure => simp [intOf]; omega
          · have hj : j = s.size := by omega
            subst hj
            rw [show s.size - 0 = ds.length from DL.out.symm] at R
            have pe := prs_end (neg := false) R (by rw [DL.out]; omega) (fun h => by cases h.1)
            rw [EZ.out] at pe
            clear R
            by_cases hy : y = -9223372036854775808
            · have Z : Hid (z = (0, 3)) := Lib.hid (by rw [pe, if_pos (.inr ⟨rfl, hy⟩)])
              have e1 := beq_t hy
              clear pe hy
              go_wp2_with fail
              go_ret2
              exact ⟨res_of Z.out, rfl⟩
            · have Z : Hid (z = (-y, 0)) := Lib.hid (by rw [pe, if_neg (by simp [hy]), if_neg (by simp)])
              have e1 := beq_f hy
              have yl : -9223372036854775808 < y := by omega
              clear pe hy
              go_wp2_with fail
              go_ret2
              exact ⟨res_of Z.out, rfl⟩
set_option maxRecDepth 100000 in
set_option maxHeartbeats 1000000 in
theorem ref_parse1 (s : ByteArray) (hs : s.size ≤ 9223372036854775807) (hf : 1 < s.size) (hm : s[0] = 45) (hz : s[1] ≠ 48) (w : World) :
    Calls Tryd.prog 30 #[.string s] w fun e w' => e = Res (prs true (s.data.toList.drop 1)) ∧ w = w' := by
  have e0 : ((s[0].toNat : Int) == 45) = true := beq_t ((byte_45 _).2 hm)
  have l0 : (0 : Int) < s.size := by omega
  have sz : ((s.size : Int) == 1) = false := beq_f (by omega)
  have zz : ((s[1].toNat : Int) == 48) = false := beq_f fun e => hz ((byte_48 _).1 e)
  have nh : (s.data.toList.drop 1).head? ≠ some 48 := fun h => by
    rw [List.head?_eq_getElem?, show (0 : Nat) = 1 - 1 by rfl, drop_at s 1 1 (Nat.le_refl _) hf] at h
    exact hz (Option.some.inj h)
  have hh : ∀ k, k = 1 → k + 1 < s.size → (s.data.toList.drop 1).head? ≠ some 48 := fun _ _ _ => nh
  have hz' : (s.data.toList.drop 1).head? ≠ some 48 := nh
  have hne : s.data.toList.drop 1 ≠ [] := fun h => by have := drop_len s 1; rw [h] at this; simp at this; omega
  have dl := drop_len s 1
  have da := drop_at s 1
  obtain ⟨ds, hds⟩ : ∃ ds, s.data.toList.drop 1 = ds := ⟨_, rfl⟩
  rw [hds] at hh hz' hne dl da ⊢
  obtain ⟨z, ez⟩ : ∃ z, prs true ds = z := ⟨_, rfl⟩
  rw [ez]
  have EZ := Lib.hid ez; have HH := Lib.hid hh; have HZ := Lib.hid hz'; have HN := Lib.hid hne; have DL := Lib.hid dl; have DA := Lib.hid da
  clear ez hh hz' hne dl da hds hz hm nh
  skip
  all_goals
    go_enter Tryd.func30, Tryd.ntmps30
    go_wp2_with fail
    go_loop [5] (fun i => ∃ j : Nat, 1 ≤ j ∧ j ≤ s.size ∧ i = .int .i64 j ∧ (ds.take (j - 1)).all dgt = true) (fun i => s.size - (intOf i).toNat)
    case atStart => exact ⟨1, Nat.le_refl _, by omega, rfl, rfl⟩
    case round =>
      obtain ⟨j, j0, j1, rfl, R⟩ := hrel
      by_cases hlt : j < s.size
      · have hx := DA.out j j0 hlt
        have x0 : 0 ≤ (s[j].toNat : Int) := by omega
        have x1 := byte_lt s[j]
        have jl : (j : Int) < s.size := by omega
        cases hd : dgt s[j]
        · have hn : ¬ (48 ≤ (s[j].toNat : Int) ∧ (s[j].toNat : Int) ≤ 57) := fun h => by rw [(dgt_iff _).2 h] at hd; cases hd
          have Z := Lib.hid (EZ.out.symm.trans (prs_bad hx hd))
          clear hx hd R
          rcases (show (s[j].toNat : Int) < 48 ∨ 57 < (s[j].toNat : Int) by omega) with h | h
          · have d1 := dlt_t h
            clear hn
            go_wp2_with fail
            go_ret2
            exact ⟨res_of Z.out, rfl⟩
          · have d1 := dlt_t h
            have d2 : decide ((s[j].toNat : Int) < 48) = false := dlt_f (by omega)
            clear hn
            go_wp2_with fail
            go_ret2
            exact ⟨res_of Z.out, rfl⟩
        · obtain ⟨h48, h57⟩ := (dgt_iff _).1 hd
          have d1 : decide ((s[j].toNat : Int) < 48) = false := dlt_f h48
          have d2 : decide (57 < (s[j].toNat : Int)) = false := dlt_f h57
          have N : Hid ((ds.take (j + 1 - 1)).all dgt = true) := Lib.hid (by
            rw [show j + 1 - 1 = (j - 1) + 1 by omega, take_one hx, List.all_append, R]; simp [hd])
          clear hx hd R
          go_wp2_with fail
          go_round
          case rel => exact ⟨j + 1, by omega, by omega, by go_num, N.out⟩
          case measure => simp [intOf]; omega
      · have hj : j = s.size := by omega
        subst hj
        rw [show s.size - 1 = ds.length from DL.out.symm, List.take_length] at R
        have AD := Lib.hid R
        clear R hlt j1
        go_wp2_with fail
        go_loop [6, 7] (fun n i => ∃ (j : Nat) (y : Int), 1 ≤ j ∧ j ≤ s.size ∧ i = .int .i64 j ∧ n = .int .i64 y ∧ PRel ds (j - 1) y true) (fun _ i => s.size - (intOf i).toNat)
        case atStart => exact ⟨1, 0, Nat.le_refl _, by omega, rfl, rfl, PRel.start _⟩
        case round =>
          obtain ⟨j, y, k0, k1, rfl, rfl, R⟩ := hrel
          obtain ⟨y0, y1⟩ := R.bounds
          by_cases hlt : j < s.size
          · have hx := DA.out j k0 hlt
            have hd : dgt s[j] = true := List.all_eq_true.1 AD.out _ (List.mem_of_getElem? hx)
            obtain ⟨h48, h57⟩ := (dgt_iff _).1 hd
            have x1 := byte_lt s[j]
            have jl : (j : Int) < s.size := by omega
            by_cases hy : y < (-9223372036854775808 + ((s[j].toNat : Int) - 48)).tdiv 10
            · have Z := Lib.hid (EZ.out.symm.trans (prs_much AD.out HN.out (fun h => absurd h HZ.out) R hx hd hy))
              have dy := dlt_t hy
              clear R hx hd
              go_wp2_with fail
              go_ret2
              exact ⟨res_of Z.out, rfl⟩
            · have hy' : (-9223372036854775808 + ((s[j].toNat : Int) - 48)).tdiv 10 ≤ y := by omega
              have dy := dlt_f hy'
              have N := R.next_yes hx hd (fun e => HH.out (j - 1) e (by omega))
              rw [dle_t hy', show j - 1 + 1 = j + 1 - 1 by omega] at N
              have N' := Lib.hid N
              clear R hx hd hy N
              go_wp2_with fail
              go_round
              case rel => exact ⟨j + 1, _, by omega, by omega, by go_num, rfl, N'.out⟩
              case measure => simp [intOf]; omega
          · have hj : j = s.size := by omega
            subst hj
            rw [show s.size - 1 = ds.length from DL.out.symm] at R
            have pe := prs_end (neg := true) R (by rw [DL.out]; omega) (fun h => HZ.out (by rw [h.2]; rfl))
            rw [EZ.out] at pe
            clear R
            have Z : Hid (z = (y, 0)) := Lib.hid (by rw [pe, if_neg (by simp), if_pos rfl])
            clear pe
            go_wp2_with fail
            go_ret2
            exact ⟨res_of Z.out, rfl⟩
theorem cut_minus {l : List UInt8} {t : List UInt8} (h : l = 45 :: t) : cut l = (true, t) := by
  rw [h]; simp [cut, Lib.trimPrefix, Lib.hasPrefix, List.isPrefixOf]
theorem cut_plain {l : List UInt8} (h : l.head? ≠ some 45) : cut l = (false, l) := by
  cases l with
  | nil => rfl
  | cons c r =>
    have : (45 == c) = false := by simpa using fun e : (45 : UInt8) = c => h (by rw [e]; rfl)
    simp [cut, Lib.trimPrefix, Lib.hasPrefix, List.isPrefixOf, this]
/-- additive/additiveref01.Parse -/
theorem ref_Parse (s : ByteArray) (hs : s.size ≤ 9223372036854775807) (w : World) :
    Calls Tryd.prog 30 #[.string s] w fun e w' => e = Res (prs (cut s.data.toList).1 (cut s.data.toList).2) ∧ w = w' := by
  by_cases h0 : s.size = 0
  · have hnil : s.data.toList = [] := List.eq_nil_of_length_eq_zero (by rw [len_byte]; exact h0)
    rw [hnil]
    obtain rfl : s = ByteArray.empty := by
      apply ByteArray.ext; apply Array.toList_inj.1; rw [hnil]; rfl
    have Z : Hid (prs (cut []).1 (cut []).2 = (0, 5)) := Lib.hid (by decide)
    clear hnil h0
    go_enter Tryd.func30, Tryd.ntmps30
    go_wp2_with fail
    go_ret2
    exact ⟨res_of Z.out, rfl⟩
  have hp0 : 0 < s.size := by omega
  have hh := head_byte s hp0
  have l0 : (0 : Int) < s.size := by omega
  by_cases hm : s[0] = 45
  · obtain ⟨t, ht⟩ : ∃ t, s.data.toList = 45 :: t := by
      cases hl : s.data.toList with
      | nil => rw [hl] at hh; cases hh
      | cons c r => rw [hl] at hh; exact ⟨r, by rw [← hm, ← Option.some.inj hh]⟩
    rw [cut_minus ht]
    have td : s.data.toList.drop 1 = t := by rw [ht]; rfl
    have e0 := beq_t ((byte_45 s[0]).2 hm)
    by_cases h1 : s.size = 1
    · have tn : t = [] := by have ll := len_byte s; rw [ht] at ll; simp at ll; exact List.eq_nil_of_length_eq_zero (by omega)
      have Z : Hid (prs true t = (0, 5)) := Lib.hid (by rw [tn]; exact prs_nil)
      have e1 : ((s.size : Int) == 1) = true := beq_t (by omega)
      clear ht td tn hh hm h1
      go_enter Tryd.func30, Tryd.ntmps30
      go_wp2_with fail
      go_ret2
      exact ⟨res_of Z.out, rfl⟩
    · have hp1 : 1 < s.size := by omega
      by_cases h2 : s[1] = 48
      · have Z : Hid (prs true t = (0, 5)) := Lib.hid (by
          have : t.head? = some 48 := by
            rw [List.head?_eq_getElem?, ← td, show (0 : Nat) = 1 - 1 by rfl, drop_at s 1 1 (Nat.le_refl _) (by omega), h2]
          unfold prs; rw [if_pos (.inr (.inl ⟨this, .inl rfl⟩))])
        have e1 : ((s.size : Int) == 1) = false := beq_f (by omega)
        have e2 := beq_t ((byte_48 s[1]).2 h2)
        have l1 : (1 : Int) < s.size := by omega
        have l2 := dlt_t l1
        clear ht td hh hm h1 h2
        go_enter Tryd.func30, Tryd.ntmps30
        go_wp2_with fail
        go_ret2
        exact ⟨res_of Z.out, rfl⟩
      · have c := ref_parse1 s hs (by omega) hm h2 w
        rw [td] at c
        exact c
  · rw [cut_plain (by rw [hh]; intro e; exact hm (Option.some.inj e))]
    have e0 : ((s[0].toNat : Int) == 45) = false := beq_f fun e => hm ((byte_45 s[0]).1 e)
    by_cases h2 : s[0] = 48 ∧ 1 < s.size
    · obtain ⟨h2, h3⟩ := h2
      have Z : Hid (prs false s.data.toList = (0, 5)) := Lib.hid (prs_zero (by rw [hh, h2]) (by rw [len_byte]; omega))
      have e1 : ((s.size : Int) == 0) = false := beq_f (by omega)
      have e2 := beq_t ((byte_48 s[0]).2 h2)
      have l1 : (1 : Int) < s.size := by omega
      have l2 := dlt_t l1
      clear hh hm h2
      go_enter Tryd.func30, Tryd.ntmps30
      go_wp2_with fail
      go_ret2
      exact ⟨res_of Z.out, rfl⟩
    · have c := ref_parse0 s hs (by omega) hm (fun e => by
        rcases Nat.lt_or_ge 1 s.size with u | u
        · exact absurd ⟨e, u⟩ h2
        · omega) w
      rw [List.drop_zero] at c
      exact c
end Go.Proofs.YtflalomgifeaaaaDoor
