/-
  math/bits.Div64: for a divisor greater than the upper half, the quotient and the rest of the number of 128 bits; the world is as it was, but for draws.
-/
import Derived.Test.YtflalomgifeaaaaDoorNumB
import Derived.Test.YtflalomgifeaaaaDoorShelf
import Derived.Test.YtflalomgifeaaaaDoorKnuth
namespace Go.Proofs.YtflalomgifeaaaaDoor
open Go.RowKit
theorem wrapu_in (n : Int) (h0 : 0 ≤ n) (h1 : n ≤ 18446744073709551615) : IntKind.u64.wrap n = n := IntWalk.u64_in n ⟨h0, h1⟩
theorem div64_low (lo y : Int) (hl0 : 0 ≤ lo) (hl : lo < 18446744073709551616) (hy : y < 18446744073709551616) (h : 0 < y) (w : World) :
    Calls Tryd.prog 37 #[.int .u64 0, .int .u64 lo, .int .u64 y] w fun e w' => e = .returned (.tuple #[.int .u64 (lo / y), .int .u64 (lo % y)]) ∧ Ext w w' := by
  have hz : (y == 0) = false := beq_f (by omega)
  have b0 : 0 ≤ lo / y := Int.ediv_nonneg hl0 (by omega)
  have b1 : lo / y ≤ lo := Int.ediv_le_self _ hl0
  have hw := wrapu_in (lo / y) b0 (by omega)
  go_enter Tryd.func37, Tryd.ntmps37
  go_wp2
  go_quiet (fail)
  go_wp2
  go_ret2
  exact ⟨ret2 (by first | exact hw | rfl) rfl, (Ext.refl _).drewN _⟩
theorem quo_start {A d y1 y0 : Int} (D : Dig A d y1 y0) : A / y1 ≤ 18446744073709551615 ∧ 0 ≤ A / y1 := by
  have h := Inv.start D
  have := h.q0; have := h.q1; omega
theorem rest_start {A d y1 y0 : Int} (D : Dig A d y1 y0) : IntKind.u64.wrap (A - IntKind.u64.wrap (A / y1 * y1)) = A - A / y1 * y1 := by
  have h := Inv.start D
  have := h.r0; have := h.r1; have := D.a1; have := D.a0; have := D.y11; have := D.y10; have := D.y01
  have h2 : 0 ≤ A / y1 * y1 := Int.mul_nonneg h.q0 (by omega)
  have h3 := h.sum
  rw [wrapu_in (A / y1 * y1) h2 (by omega), wrapu_in _ (by omega) (by omega)]
set_option maxRecDepth 100000 in
set_option maxHeartbeats 4000000 in
theorem div64_two (hi lo y : Int) (s : Nat) (Y y1 y0 A L d1 d0 Q1 R1 Q2 R2 : Int) (K : KD hi lo y s Y y1 y0 A L d1 d0 Q1 R1 Q2 R2)
    (hh : 0 < hi) (_hl0 : 0 ≤ lo) (_hl : lo < 18446744073709551616) (hy : y < 18446744073709551616) (h : hi < y) (w : World) :
    Calls Tryd.prog 37 #[.int .u64 hi, .int .u64 lo, .int .u64 y] w fun e w' => e = .returned (.tuple #[.int .u64 (Q1 * 4294967296 + Q2), .int .u64 (R2 / 2 ^ s)]) ∧ w = w' := by
  have hz : (y == 0) = false := beq_f (by omega)
  have hz2 : (hi == 0) = false := beq_f (by omega)
  have c44 : Hid (∀ w : World, Calls Tryd.prog 44 #[.int .u64 y] w fun e w' => e = .returned (.int .i64 s) ∧ w = w') := Lib.hid fun w => by
    have c := Tryd.bits_LeadingZeros64 y w (by omega) (by omega)
    rw [K.bl] at c
    exact c.mono fun e w' ⟨he, hw⟩ => ⟨he, hw.symm⟩
  have D1 := K.D1; have D2 := K.D2
  have hs := K.s63
  have hY0 := K.Y0; have hY1 := K.Y1
  have y1b := D1.y10; have y1c := D1.y11; have y0a := D1.y00; have y0b := D1.y01
  have hA0 := D1.a0; have hA1 : A < 18446744073709551616 := by have := D1.a1; omega
  have d1a := D1.d0; have d1b := D1.d1; have d0a := D2.d0; have d0b := D2.d1
  have L0 := K.L0; have L1 := K.L1
  have e2 := K.e2; have e9 := K.e9; have e10 := K.e10; have e11 := K.e11; have e12 := K.e12; have e13 := K.e13; have e14 := K.e14
  have i1 := Inv.start D1
  obtain ⟨q1b, q1a⟩ := quo_start D1
  have e16 := rest_start D1
  go_enter Tryd.func37, Tryd.ntmps37
  go_wp2_with (go_at_call 44; refine (c44.out _).mono ?_; rintro e w' ⟨rfl, rfl⟩)
  clear e2 e9 e10 e11 e12 e13 e14 e16 q1a q1b
  go_loop [15, 16] (fun q r => ∃ qn rn : Int, q = .int .u64 qn ∧ r = .int .u64 rn ∧ Inv A d1 y1 y0 qn rn) (fun q _ => (intOf q).toNat)
  case atStart => exact ⟨_, _, rfl, rfl, i1⟩
  case round =>
    clear i1
    obtain ⟨q, r, rfl, rfl, I⟩ := hrel
    have a3 := I.q0; have a4 := I.q1; have a5 := I.r0; have a6 := I.r1
    have g1 := K.q10; have g2 := K.q11; have g3 := K.q20; have g4 := K.q21; have g5 := K.r20; have g6 := K.r21; have g7 := K.r11; have g8 := D2.a0
    by_cases c1 : 4294967296 ≤ q ∨ 4294967296 * r + d1 < q * y0
    · have hk : 1 ≤ q := I.pos D1 c1
      by_cases hr : 4294967296 ≤ r + y1
      · have hd := I.brk D1 c1 hr
        rw [K.q1] at hd
        subst hd
        have dr := dle_t hr
        rcases (show 4294967296 ≤ Q1 + 1 ∨ Q1 + 1 < 4294967296 by omega) with hq | hq
        · have f1 := dle_t hq
          clear c1
          have e17 := K.e17
          have i2 := Inv.start D2
          obtain ⟨q2b, q2a⟩ := quo_start D2
          have e19 := rest_start D2
          go_wp2
          clear e17 e19 q2a q2b
          go_loop [18, 16] (fun q r => ∃ qn rn : Int, q = .int .u64 qn ∧ r = .int .u64 rn ∧ Inv R1 d0 y1 y0 qn rn) (fun q _ => (intOf q).toNat)
          case atStart => exact ⟨_, _, rfl, rfl, i2⟩
          case round =>
            clear i2
            obtain ⟨u, v, rfl, rfl, J⟩ := hrel
            have b3 := J.q0; have b4 := J.q1; have b5 := J.r0; have b6 := J.r1
            by_cases c2 : 4294967296 ≤ u ∨ 4294967296 * v + d0 < u * y0
            · have hk : 1 ≤ u := J.pos D2 c2
              by_cases hr : 4294967296 ≤ v + y1
              · have hd := J.brk D2 c2 hr
                rw [K.q2] at hd
                subst hd
                have dr := dle_t hr
                have e18 := K.e18
                rcases (show 4294967296 ≤ Q2 + 1 ∨ Q2 + 1 < 4294967296 by omega) with hq | hq
                · have f1 := dle_t hq
                  clear c2 I J
                  go_wp2
                  go_ret2
                  exact ⟨rfl, rfl⟩
                · obtain ⟨p1, p2⟩ := J.prod D2 hq
                  have c2' : 4294967296 * v + d0 < (Q2 + 1) * y0 := by omega
                  have f1 := dle_f hq
                  have f2 := dlt_t c2'
                  clear c2 I J
                  go_wp2
                  go_ret2
                  exact ⟨rfl, rfl⟩
              · have hn := J.next D2 c2 (by omega)
                have dr := dle_f (show v + y1 < 4294967296 by omega)
                rcases (show 4294967296 ≤ u ∨ u < 4294967296 by omega) with hq | hq
                · have f1 := dle_t hq
                  have HN := Lib.hid hn
                  clear c2 I J hn
                  go_wp2
                  go_round
                  case rel => exact ⟨_, _, rfl, rfl, HN.out⟩
                  case measure => simp [intOf]; omega
                · obtain ⟨p1, p2⟩ := J.prod D2 hq
                  have c2' : 4294967296 * v + d0 < u * y0 := by omega
                  have f1 := dle_f hq
                  have f2 := dlt_t c2'
                  have HN := Lib.hid hn
                  clear c2 I J hn
                  go_wp2
                  go_round
                  case rel => exact ⟨_, _, rfl, rfl, HN.out⟩
                  case measure => simp [intOf]; omega
            · have hq : u < 4294967296 := by omega
              obtain ⟨p1, p2⟩ := J.prod D2 hq
              have hd := J.done D2 (by omega)
              rw [K.q2] at hd
              obtain rfl : Q2 = u := hd.symm
              have f1 := dle_f hq
              have f2 := dlt_f (show Q2 * y0 ≤ 4294967296 * v + d0 by omega)
              have e18 := K.e18
              clear c2 I J
              go_wp2
              go_ret2
              exact ⟨rfl, rfl⟩
        · obtain ⟨p1, p2⟩ := I.prod D1 hq
          have c1' : 4294967296 * r + d1 < (Q1 + 1) * y0 := by omega
          have f1 := dle_f hq
          have f2 := dlt_t c1'
          clear c1
          have e17 := K.e17
          have i2 := Inv.start D2
          obtain ⟨q2b, q2a⟩ := quo_start D2
          have e19 := rest_start D2
          go_wp2
          clear e17 e19 q2a q2b
          go_loop [18, 16] (fun q r => ∃ qn rn : Int, q = .int .u64 qn ∧ r = .int .u64 rn ∧ Inv R1 d0 y1 y0 qn rn) (fun q _ => (intOf q).toNat)
          case atStart => exact ⟨_, _, rfl, rfl, i2⟩
          case round =>
            clear i2
            obtain ⟨u, v, rfl, rfl, J⟩ := hrel
            have b3 := J.q0; have b4 := J.q1; have b5 := J.r0; have b6 := J.r1
            by_cases c2 : 4294967296 ≤ u ∨ 4294967296 * v + d0 < u * y0
            · have hk : 1 ≤ u := J.pos D2 c2
              by_cases hr : 4294967296 ≤ v + y1
              · have hd := J.brk D2 c2 hr
                rw [K.q2] at hd
                subst hd
                have dr := dle_t hr
                have e18 := K.e18
                rcases (show 4294967296 ≤ Q2 + 1 ∨ Q2 + 1 < 4294967296 by omega) with hq | hq
                · have f1 := dle_t hq
                  clear c2 I J
                  go_wp2
                  go_ret2
                  exact ⟨rfl, rfl⟩
                · obtain ⟨p1, p2⟩ := J.prod D2 hq
                  have c2' : 4294967296 * v + d0 < (Q2 + 1) * y0 := by omega
                  have f1 := dle_f hq
                  have f2 := dlt_t c2'
                  clear c2 I J
                  go_wp2
                  go_ret2
                  exact ⟨rfl, rfl⟩
              · have hn := J.next D2 c2 (by omega)
                have dr := dle_f (show v + y1 < 4294967296 by omega)
                rcases (show 4294967296 ≤ u ∨ u < 4294967296 by omega) with hq | hq
                · have f1 := dle_t hq
                  have HN := Lib.hid hn
                  clear c2 I J hn
                  go_wp2
                  go_round
                  case rel => exact ⟨_, _, rfl, rfl, HN.out⟩
                  case measure => simp [intOf]; omega
                · obtain ⟨p1, p2⟩ := J.prod D2 hq
                  have c2' : 4294967296 * v + d0 < u * y0 := by omega
                  have f1 := dle_f hq
                  have f2 := dlt_t c2'
                  have HN := Lib.hid hn
                  clear c2 I J hn
                  go_wp2
                  go_round
                  case rel => exact ⟨_, _, rfl, rfl, HN.out⟩
                  case measure => simp [intOf]; omega
            · have hq : u < 4294967296 := by omega
              obtain ⟨p1, p2⟩ := J.prod D2 hq
              have hd := J.done D2 (by omega)
              rw [K.q2] at hd
              obtain rfl : Q2 = u := hd.symm
              have f1 := dle_f hq
              have f2 := dlt_f (show Q2 * y0 ≤ 4294967296 * v + d0 by omega)
              have e18 := K.e18
              clear c2 I J
              go_wp2
              go_ret2
              exact ⟨rfl, rfl⟩
      · have hn := I.next D1 c1 (by omega)
        have dr := dle_f (show r + y1 < 4294967296 by omega)
        rcases (show 4294967296 ≤ q ∨ q < 4294967296 by omega) with hq | hq
        · have f1 := dle_t hq
          have HN := Lib.hid hn
          clear c1 I hn
          go_wp2
          go_round
          case rel => exact ⟨_, _, rfl, rfl, HN.out⟩
          case measure => simp [intOf]; omega
        · obtain ⟨p1, p2⟩ := I.prod D1 hq
          have c1' : 4294967296 * r + d1 < q * y0 := by omega
          have f1 := dle_f hq
          have f2 := dlt_t c1'
          have HN := Lib.hid hn
          clear c1 I hn
          go_wp2
          go_round
          case rel => exact ⟨_, _, rfl, rfl, HN.out⟩
          case measure => simp [intOf]; omega
    · have hq : q < 4294967296 := by omega
      obtain ⟨p1, p2⟩ := I.prod D1 hq
      have hd := I.done D1 (by omega)
      rw [K.q1] at hd
      obtain rfl : Q1 = q := hd.symm
      have f1 := dle_f hq
      have f2 := dlt_f (show Q1 * y0 ≤ 4294967296 * r + d1 by omega)
      clear c1
      have e17 := K.e17
      have i2 := Inv.start D2
      obtain ⟨q2b, q2a⟩ := quo_start D2
      have e19 := rest_start D2
      go_wp2
      clear e17 e19 q2a q2b
      go_loop [18, 16] (fun q r => ∃ qn rn : Int, q = .int .u64 qn ∧ r = .int .u64 rn ∧ Inv R1 d0 y1 y0 qn rn) (fun q _ => (intOf q).toNat)
      case atStart => exact ⟨_, _, rfl, rfl, i2⟩
      case round =>
        clear i2
        obtain ⟨u, v, rfl, rfl, J⟩ := hrel
        have b3 := J.q0; have b4 := J.q1; have b5 := J.r0; have b6 := J.r1
        by_cases c2 : 4294967296 ≤ u ∨ 4294967296 * v + d0 < u * y0
        · have hk : 1 ≤ u := J.pos D2 c2
          by_cases hr : 4294967296 ≤ v + y1
          · have hd := J.brk D2 c2 hr
            rw [K.q2] at hd
            subst hd
            have dr := dle_t hr
            have e18 := K.e18
            rcases (show 4294967296 ≤ Q2 + 1 ∨ Q2 + 1 < 4294967296 by omega) with hq | hq
            · have f1 := dle_t hq
              clear c2 I J
              go_wp2
              go_ret2
              exact ⟨rfl, rfl⟩
            · obtain ⟨p1, p2⟩ := J.prod D2 hq
              have c2' : 4294967296 * v + d0 < (Q2 + 1) * y0 := by omega
              have f1 := dle_f hq
              have f2 := dlt_t c2'
              clear c2 I J
              go_wp2
              go_ret2
              exact ⟨rfl, rfl⟩
          · have hn := J.next D2 c2 (by omega)
            have dr := dle_f (show v + y1 < 4294967296 by omega)
            rcases (show 4294967296 ≤ u ∨ u < 4294967296 by omega) with hq | hq
            · have f1 := dle_t hq
              have HN := Lib.hid hn
              clear c2 I J hn
              go_wp2
              go_round
              case rel => exact ⟨_, _, rfl, rfl, HN.out⟩
              case measure => simp [intOf]; omega
            · obtain ⟨p1, p2⟩ := J.prod D2 hq
              have c2' : 4294967296 * v + d0 < u * y0 := by omega
              have f1 := dle_f hq
              have f2 := dlt_t c2'
              have HN := Lib.hid hn
              clear c2 I J hn
              go_wp2
              go_round
              case rel => exact ⟨_, _, rfl, rfl, HN.out⟩
              case measure => simp [intOf]; omega
        · have hq : u < 4294967296 := by omega
          obtain ⟨p1, p2⟩ := J.prod D2 hq
          have hd := J.done D2 (by omega)
          rw [K.q2] at hd
          obtain rfl : Q2 = u := hd.symm
          have f1 := dle_f hq
          have f2 := dlt_f (show Q2 * y0 ≤ 4294967296 * v + d0 by omega)
          have e18 := K.e18
          clear c2 I J
          go_wp2
          go_ret2
          exact ⟨rfl, rfl⟩
/-- math/bits.Div64, where it does not panic. -/
theorem bits_Div64 (hi lo y : Int) (h0 : 0 ≤ hi) (hl0 : 0 ≤ lo) (hl : lo < 18446744073709551616) (hy : y < 18446744073709551616) (h : hi < y) (w : World) :
    Calls Tryd.prog 37 #[.int .u64 hi, .int .u64 lo, .int .u64 y] w fun e w' => e = .returned (.tuple #[.int .u64 ((hi * 18446744073709551616 + lo) / y), .int .u64 ((hi * 18446744073709551616 + lo) % y)]) ∧ Ext w w' := by
  by_cases hh : hi = 0
  · subst hh
    rw [Int.zero_mul, Int.zero_add]
    exact div64_low lo y hl0 hl hy h w
  · obtain ⟨s, Y, y1, y0, A, L, d1, d0, Q1, R1, Q2, R2, K⟩ := kd_exists hi lo y (by omega) hl0 hl hy h
    rw [K.quo, K.rem]
    refine (div64_two hi lo y s Y y1 y0 A L d1 d0 Q1 R1 Q2 R2 K (by omega) hl0 hl hy h w).mono fun e w' ⟨he, hw⟩ => ⟨he, ?_⟩
    rw [← hw]; exact Ext.refl _
end Go.Proofs.YtflalomgifeaaaaDoor
