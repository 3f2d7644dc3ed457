/-
  Contracts of the document's own MulDiv and Mul, and of the product and the long division that they use: the floor of the exact quotient, or the error number.
-/
import Derived.Test.YtflalomgifeaaaaDoorNumC
import Derived.Test.YtflalomgifeaaaaDoorRefMath
namespace Go.Proofs.YtflalomgifeaaaaDoor
open Go.RowKit
set_option maxHeartbeats 1000000 in
theorem ref_product (x y : Nat) (hx : x < 18446744073709551616) (hy : y < 18446744073709551616) (w : World) :
    Calls Tryd.prog 39 #[.int .u64 x, .int .u64 y] w fun e w' => e = .returned (.tuple #[.int .u64 ((x * y / 18446744073709551616 : Nat) : Int), .int .u64 ((x * y % 18446744073709551616 : Nat) : Int)]) ∧ w = w' := by
  obtain ⟨x1, x0, y1, y0, m0, e1, e2, e3, e4, ⟨b1, c1⟩, ⟨b2, c2⟩, ⟨b3, c3⟩, ⟨b4, c4⟩, e5, ⟨b5, c5⟩, e6, e7⟩ := prod_parts x y hx hy
  generalize ((x * y / 18446744073709551616 : Nat) : Int) = H at *
  generalize ((x * y % 18446744073709551616 : Nat) : Int) = L at *
  have xb : (x : Int) < 18446744073709551616 := by omega
  have yb : (y : Int) < 18446744073709551616 := by omega
  have xc : (0 : Int) ≤ x := by omega
  have yc : (0 : Int) ≤ y := by omega
  clear hx hy
  generalize (x : Int) = X at *
  generalize (y : Int) = Y at *
  have E6 := Lib.hid e6; clear e6
  go_enter Tryd.func39, Tryd.ntmps39
  go_wp2
  go_ret2
  exact ⟨ret2 (by first | exact E6.out | rfl) rfl, rfl⟩
theorem ref_quotient_over (hi lo d : Int) (h : d ≤ hi) (w : World) :
    Calls Tryd.prog 40 #[.int .u64 hi, .int .u64 lo, .int .u64 d] w fun e w' => e = .returned (.tuple #[.int .u64 0, .int .u64 0, .bool false]) ∧ w = w' := by
  have dv := dle_t h
  go_enter Tryd.func40, Tryd.ntmps40
  go_wp2
  go_ret3
  exact ⟨rfl, rfl⟩
set_option maxRecDepth 100000 in
set_option maxHeartbeats 1000000 in
theorem ref_quotient (hi lo d : Int) (h0 : 0 ≤ hi) (hl0 : 0 ≤ lo) (hl : lo < 18446744073709551616) (hd : d ≤ 9223372036854775808) (h : hi < d) (w : World) :
    Calls Tryd.prog 40 #[.int .u64 hi, .int .u64 lo, .int .u64 d] w fun e w' => e = .returned (.tuple #[.int .u64 ((hi * 18446744073709551616 + lo) / d), .int .u64 ((hi * 18446744073709551616 + lo) % d), .bool true]) ∧ w = w' := by
  have dv := dle_f h
  have st := Lib.hid (QRel.start h0 h hl0 hl)
  generalize hi * 18446744073709551616 + lo = N at *
  go_enter Tryd.func40, Tryd.ntmps40
  go_wp2
  go_loop [1, 9, 10, 11] (fun a b c i => ∃ (k : Nat) (low q r : Int), k ≤ 64 ∧ i = .int .i64 k ∧ a = .int .u64 low ∧ b = .int .u64 q ∧ c = .int .u64 r ∧ QRel N d k low q r) (fun _ _ _ i => 64 - (intOf i).toNat)
  case atStart => exact ⟨0, lo, 0, hi, by omega, rfl, rfl, rfl, rfl, st.out⟩
  case round =>
    obtain ⟨k, low, q, r, hk, rfl, rfl, rfl, rfl, R⟩ := hrel
    by_cases hlt : k < 64
    · have q2 := R.q63 hlt
      have q0 := R.q0; have r0 := R.r0; have r1 := R.r1
      obtain ⟨l0, l1⟩ := R.low64 hk
      obtain ⟨b0, b1, n1, n2⟩ := R.step hlt
      have eo := or_bit r (low / 9223372036854775808) r0 (by omega) b0 b1
      have ec : (r / 9223372036854775808 == 1) = false := beq_f (by omega)
      have kk : ((k : Int) < 64) := by omega
      by_cases hc : d ≤ r * 2 + low / 9223372036854775808
      · have N1 := Lib.hid (n1 hc)
        have d1 := dle_t hc
        clear n1 n2 R
        go_wp2
        go_round
        case rel => exact ⟨k + 1, _, _, _, by omega, by go_num, rfl, rfl, rfl, N1.out⟩
        case measure => simp [intOf]; omega
      · have N2 := Lib.hid (n2 (by omega))
        have d1 := dle_f (show r * 2 + low / 9223372036854775808 < d by omega)
        have hc' : r * 2 + low / 9223372036854775808 < d := by omega
        clear n1 n2 R hc
        go_wp2
        go_round
        case rel => exact ⟨k + 1, _, _, _, by omega, by go_num, rfl, rfl, rfl, N2.out⟩
        case measure => simp [intOf]; omega
    · have hk64 : k = 64 := by omega
      subst hk64
      obtain ⟨e1, e2⟩ := R.last
      have E1 := Lib.hid e1; have E2 := Lib.hid e2
      clear R e1 e2 hk
      go_wp2
      go_ret3
      exact ⟨by rw [E1.out, E2.out]; rfl, rfl⟩
set_option maxRecDepth 100000 in
theorem ref_md_pos (a b c A B C H L Q R : Int) (sa sb sc : Bool) (w : World) (hc : c ≠ 0) (q0 : 0 ≤ Q) (q1 : Q ≤ 18446744073709551615) (_r0 : 0 ≤ R)
    (MA : Hid (Calls Tryd.prog 34 #[.int .i64 a] w fun e w' => e = .returned (.int .u64 A) ∧ w = w')) (MB : Hid (Calls Tryd.prog 34 #[.int .i64 b] w fun e w' => e = .returned (.int .u64 B) ∧ w = w')) (MC : Hid (Calls Tryd.prog 34 #[.int .i64 c] w fun e w' => e = .returned (.int .u64 C) ∧ w = w'))
    (ML : Hid (Calls Tryd.prog 39 #[.int .u64 A, .int .u64 B] w fun e w' => e = .returned (.tuple #[.int .u64 H, .int .u64 L]) ∧ w = w')) (DV : Hid (Calls Tryd.prog 40 #[.int .u64 H, .int .u64 L, .int .u64 C] w fun e w' => e = .returned (.tuple #[.int .u64 Q, .int .u64 R, .bool true]) ∧ w = w'))
    (da : decide (a < 0) = sa) (db : decide (b < 0) = sb) (dc : decide (c < 0) = sc) (hn : (!(sa == !(sb == sc))) = false) :
    Calls Tryd.prog 23 #[.int .i64 a, .int .i64 b, .int .i64 c] w fun e w' => e = Res (fit Q) ∧ w = w' := by
  have hz : (c == 0) = false := beq_f hc
  by_cases hq : 9223372036854775807 < Q
  · have dq := dlt_t hq
    have Z := Lib.hid (fit_out (s := Q) (.inr hq))
    go_enter Tryd.func23, Tryd.ntmps23
    go_wp2_with fail
    refine MA.out.mono ?_; rintro e w' ⟨rfl, rfl⟩
    go_wp2_with fail
    refine MB.out.mono ?_; rintro e w' ⟨rfl, rfl⟩
    go_wp2_with fail
    refine ML.out.mono ?_; rintro e w' ⟨rfl, rfl⟩
    go_wp2_with fail
    refine MC.out.mono ?_; rintro e w' ⟨rfl, rfl⟩
    go_wp2_with fail
    refine DV.out.mono ?_; rintro e w1 ⟨rfl, rfl⟩
    go_wp2_with fail
    go_ret2
    exact ⟨res_of Z.out, rfl⟩
  · have dq := dlt_f (show Q ≤ 9223372036854775807 by omega)
    have Z := Lib.hid (fit_in (s := Q) (by omega) (by omega))
    go_enter Tryd.func23, Tryd.ntmps23
    go_wp2_with fail
    refine MA.out.mono ?_; rintro e w' ⟨rfl, rfl⟩
    go_wp2_with fail
    refine MB.out.mono ?_; rintro e w' ⟨rfl, rfl⟩
    go_wp2_with fail
    refine ML.out.mono ?_; rintro e w' ⟨rfl, rfl⟩
    go_wp2_with fail
    refine MC.out.mono ?_; rintro e w' ⟨rfl, rfl⟩
    go_wp2_with fail
    refine DV.out.mono ?_; rintro e w1 ⟨rfl, rfl⟩
    go_wp2_with fail
    go_ret2
    exact ⟨res_of Z.out, rfl⟩
set_option maxRecDepth 100000 in
theorem ref_md_neg (a b c A B C H L Q R : Int) (sa sb sc : Bool) (w : World) (hc : c ≠ 0) (q0 : 0 ≤ Q) (q1 : Q ≤ 18446744073709551615) (_r0 : 0 ≤ R)
    (MA : Hid (Calls Tryd.prog 34 #[.int .i64 a] w fun e w' => e = .returned (.int .u64 A) ∧ w = w')) (MB : Hid (Calls Tryd.prog 34 #[.int .i64 b] w fun e w' => e = .returned (.int .u64 B) ∧ w = w')) (MC : Hid (Calls Tryd.prog 34 #[.int .i64 c] w fun e w' => e = .returned (.int .u64 C) ∧ w = w'))
    (ML : Hid (Calls Tryd.prog 39 #[.int .u64 A, .int .u64 B] w fun e w' => e = .returned (.tuple #[.int .u64 H, .int .u64 L]) ∧ w = w')) (DV : Hid (Calls Tryd.prog 40 #[.int .u64 H, .int .u64 L, .int .u64 C] w fun e w' => e = .returned (.tuple #[.int .u64 Q, .int .u64 R, .bool true]) ∧ w = w'))
    (da : decide (a < 0) = sa) (db : decide (b < 0) = sb) (dc : decide (c < 0) = sc) (hn : (!(sa == !(sb == sc))) = true) :
    Calls Tryd.prog 23 #[.int .i64 a, .int .i64 b, .int .i64 c] w fun e w' => e = Res (fit (if 0 < R then -(Q + 1) else -Q)) ∧ w = w' := by
  have hz : (c == 0) = false := beq_f hc
  obtain ⟨z, ez⟩ : ∃ z, (if 0 < R then -(Q + 1) else -Q) = z := ⟨_, rfl⟩
  rw [ez]
  by_cases g1 : 9223372036854775808 < Q
  · have Z := Lib.hid (fit_out (s := z) (by rw [← ez]; split <;> omega))
    have d1 := dlt_t g1
    clear ez
    go_enter Tryd.func23, Tryd.ntmps23
    go_wp2_with fail
    refine MA.out.mono ?_; rintro e w' ⟨rfl, rfl⟩
    go_wp2_with fail
    refine MB.out.mono ?_; rintro e w' ⟨rfl, rfl⟩
    go_wp2_with fail
    refine ML.out.mono ?_; rintro e w' ⟨rfl, rfl⟩
    go_wp2_with fail
    refine MC.out.mono ?_; rintro e w' ⟨rfl, rfl⟩
    go_wp2_with fail
    refine DV.out.mono ?_; rintro e w1 ⟨rfl, rfl⟩
    go_wp2_with fail
    go_ret2
    exact ⟨res_of Z.out, rfl⟩
  have d1 := dlt_f (show Q ≤ 9223372036854775808 by omega)
  by_cases g2 : 0 < R
  · rw [if_pos g2] at ez
    subst ez
    have d3 := dlt_t g2
    by_cases g3 : Q = 9223372036854775808
    · have d2 := beq_t g3
      have Z := Lib.hid (fit_out (s := -(Q + 1)) (by omega))
      clear g3
      go_enter Tryd.func23, Tryd.ntmps23
      go_wp2_with fail
      refine MA.out.mono ?_; rintro e w' ⟨rfl, rfl⟩
      go_wp2_with fail
      refine MB.out.mono ?_; rintro e w' ⟨rfl, rfl⟩
      go_wp2_with fail
      refine ML.out.mono ?_; rintro e w' ⟨rfl, rfl⟩
      go_wp2_with fail
      refine MC.out.mono ?_; rintro e w' ⟨rfl, rfl⟩
      go_wp2_with fail
      refine DV.out.mono ?_; rintro e w1 ⟨rfl, rfl⟩
      go_wp2_with fail
      go_ret2
      exact ⟨res_of Z.out, rfl⟩
    · have d2 := beq_f g3
      have nb := neg_back (Q + 1) (by omega) (by omega)
      have Z := Lib.hid (fit_in (s := -(Q + 1)) (by omega) (by omega))
      have g4 : Q < 9223372036854775808 := by omega
      clear g3
      go_enter Tryd.func23, Tryd.ntmps23
      go_wp2_with fail
      refine MA.out.mono ?_; rintro e w' ⟨rfl, rfl⟩
      go_wp2_with fail
      refine MB.out.mono ?_; rintro e w' ⟨rfl, rfl⟩
      go_wp2_with fail
      refine ML.out.mono ?_; rintro e w' ⟨rfl, rfl⟩
      go_wp2_with fail
      refine MC.out.mono ?_; rintro e w' ⟨rfl, rfl⟩
      go_wp2_with fail
      refine DV.out.mono ?_; rintro e w1 ⟨rfl, rfl⟩
      go_wp2_with fail
      go_ret2
      exact ⟨res_of (by first | exact Z.out | (rw [nb]; exact Z.out)), rfl⟩
  · rw [if_neg g2] at ez
    subst ez
    have d3 := dlt_f (show R ≤ 0 by omega)
    have nb := neg_back Q (by omega) (by omega)
    have Z := Lib.hid (fit_in (s := -Q) (by omega) (by omega))
    have g4 : R ≤ 0 := by omega
    clear g2
    by_cases g3 : Q = 9223372036854775808
    · have d2 := beq_t g3
      clear g3
      go_enter Tryd.func23, Tryd.ntmps23
      go_wp2_with fail
      refine MA.out.mono ?_; rintro e w' ⟨rfl, rfl⟩
      go_wp2_with fail
      refine MB.out.mono ?_; rintro e w' ⟨rfl, rfl⟩
      go_wp2_with fail
      refine ML.out.mono ?_; rintro e w' ⟨rfl, rfl⟩
      go_wp2_with fail
      refine MC.out.mono ?_; rintro e w' ⟨rfl, rfl⟩
      go_wp2_with fail
      refine DV.out.mono ?_; rintro e w1 ⟨rfl, rfl⟩
      go_wp2_with fail
      go_ret2
      exact ⟨res_of (by first | exact Z.out | (rw [nb]; exact Z.out)), rfl⟩
    · have d2 := beq_f g3
      clear g3
      go_enter Tryd.func23, Tryd.ntmps23
      go_wp2_with fail
      refine MA.out.mono ?_; rintro e w' ⟨rfl, rfl⟩
      go_wp2_with fail
      refine MB.out.mono ?_; rintro e w' ⟨rfl, rfl⟩
      go_wp2_with fail
      refine ML.out.mono ?_; rintro e w' ⟨rfl, rfl⟩
      go_wp2_with fail
      refine MC.out.mono ?_; rintro e w' ⟨rfl, rfl⟩
      go_wp2_with fail
      refine DV.out.mono ?_; rintro e w1 ⟨rfl, rfl⟩
      go_wp2_with fail
      go_ret2
      exact ⟨res_of (by first | exact Z.out | (rw [nb]; exact Z.out)), rfl⟩
set_option maxHeartbeats 1000000 in
theorem ref_MulDiv (a b c : Int) (a0 : -9223372036854775808 ≤ a) (a1 : a ≤ 9223372036854775807) (b0 : -9223372036854775808 ≤ b) (b1 : b ≤ 9223372036854775807) (c0 : -9223372036854775808 ≤ c) (c1 : c ≤ 9223372036854775807) (w : World) :
    Calls Tryd.prog 23 #[.int .i64 a, .int .i64 b, .int .i64 c] w fun e w' => e = Res (quo (a * b) c) ∧ w = w' := by
  by_cases hc : c = 0
  · subst hc
    go_enter Tryd.func23, Tryd.ntmps23
    go_wp2_with fail
    go_ret2
    exact ⟨res_of (quo_zero _), rfl⟩
  obtain ⟨s1, s2⟩ := quo_signs a b c hc
  have s3 := quo_sizes a b c hc
  have ma := ref_size a a0 a1 w
  have mb := ref_size b b0 b1 w
  have mc := ref_size c c0 c1 w
  have ml := ref_product a.natAbs b.natAbs (by omega) (by omega) w
  have A0 : 0 ≤ (a.natAbs : Int) ∧ (a.natAbs : Int) ≤ 9223372036854775808 := by omega
  have B0 : 0 ≤ (b.natAbs : Int) ∧ (b.natAbs : Int) ≤ 9223372036854775808 := by omega
  have C0 : 0 < (c.natAbs : Int) ∧ (c.natAbs : Int) ≤ 9223372036854775808 := by omega
  have e1 : ((a.natAbs * b.natAbs / 18446744073709551616 : Nat) : Int) = (a.natAbs : Int) * b.natAbs / 18446744073709551616 := by simp
  have e2 : ((a.natAbs * b.natAbs % 18446744073709551616 : Nat) : Int) = (a.natAbs : Int) * b.natAbs % 18446744073709551616 := by simp
  rw [e1, e2] at ml
  clear e1 e2
  generalize (a.natAbs : Int) = A at *
  generalize (b.natAbs : Int) = B at *
  generalize (c.natAbs : Int) = C at *
  obtain ⟨p0, p1⟩ := halves A B A0.1 A0.2 B0.1 B0.2
  generalize A * B = P at *
  have h0 : 0 ≤ P / 18446744073709551616 := by omega
  have l0 : 0 ≤ P % 18446744073709551616 := by omega
  have l1 : P % 18446744073709551616 < 18446744073709551616 := by omega
  have hp : P / 18446744073709551616 * 18446744073709551616 + P % 18446744073709551616 = P := by omega
  have MA := Lib.hid ma; have MB := Lib.hid mb; have MC := Lib.hid mc
  obtain ⟨C1, C2⟩ := C0
  have h5 : P / 18446744073709551616 ≤ 18446744073709551615 := by omega
  by_cases hov : C ≤ P / 18446744073709551616
  · have h6 : 18446744073709551616 ≤ P / C := (Int.le_ediv_iff_mul_le C1).2 (by omega)
    have Z := Lib.hid (s3 h6)
    have DV := Lib.hid (ref_quotient_over (P / 18446744073709551616) (P % 18446744073709551616) C hov w)
    generalize P / 18446744073709551616 = H at *
    generalize P % 18446744073709551616 = L at *
    have ML := Lib.hid ml
    clear ma mb mc ml s1 s2 s3 hp h6
    go_enter Tryd.func23, Tryd.ntmps23
    go_wp2_with fail
    refine MA.out.mono ?_; rintro e w' ⟨rfl, rfl⟩
    go_wp2_with fail
    refine MB.out.mono ?_; rintro e w' ⟨rfl, rfl⟩
    go_wp2_with fail
    refine ML.out.mono ?_; rintro e w' ⟨rfl, rfl⟩
    go_wp2_with fail
    refine MC.out.mono ?_; rintro e w' ⟨rfl, rfl⟩
    go_wp2_with fail
    refine DV.out.mono ?_; rintro e w1 ⟨rfl, rfl⟩
    go_wp2_with fail
    go_ret2
    exact ⟨res_of Z.out, rfl⟩
  · have dv := ref_quotient (P / 18446744073709551616) (P % 18446744073709551616) C h0 l0 l1 C2 (by omega) w
    rw [hp] at dv
    have DV := Lib.hid dv
    have q0 : 0 ≤ P / C := Int.ediv_nonneg p0 (by omega)
    have q1 : P / C ≤ 18446744073709551615 := by
      have : P / C < 18446744073709551616 := Int.ediv_lt_of_lt_mul C1 (by omega)
      omega
    have r0 : 0 ≤ P % C := Int.emod_nonneg P (by omega)
    have r1 : P % C < C := Int.emod_lt_of_pos P C1
    clear dv s3 hov
    generalize P / C = Q at *
    generalize P % C = R at *
    generalize P / 18446744073709551616 = H at *
    generalize P % 18446744073709551616 = L at *
    have ML := Lib.hid ml
    clear ma mb mc ml hp
    generalize ea : decide (a < 0) = sa at *
    generalize eb : decide (b < 0) = sb at *
    generalize ec : decide (c < 0) = sc at *
    cases hn : (!(sa == !(sb == sc)))
    · rw [s1 (by revert hn; cases sa <;> cases sb <;> cases sc <;> decide)]
      exact ref_md_pos a b c A B C H L Q R sa sb sc w hc q0 q1 r0 MA MB MC ML DV ea eb ec hn
    · rw [s2 (by revert hn; cases sa <;> cases sb <;> cases sc <;> decide)]
      exact ref_md_neg a b c A B C H L Q R sa sb sc w hc q0 q1 r0 MA MB MC ML DV ea eb ec hn
/-- additive/additiveref01.Mul -/
theorem ref_Mul (a b : Int) (a0 : -9223372036854775808 ≤ a) (a1 : a ≤ 9223372036854775807) (b0 : -9223372036854775808 ≤ b) (b1 : b ≤ 9223372036854775807) (w : World) :
    Calls Tryd.prog 15 #[.int .i64 a, .int .i64 b] w fun e w' => e = Res (quo (a * b) 1) ∧ w = w' := by
  have c := Lib.hid (ref_MulDiv a b 1 a0 a1 b0 b1 (by omega) (by omega) w)
  go_enter Tryd.func15, Tryd.ntmps15
  go_wp2_with fail
  refine c.out.mono ?_; rintro e w' ⟨rfl, rfl⟩; unfold Res
  go_wp2_with fail
  go_ret2
  exact ⟨rfl, rfl⟩
end Go.Proofs.YtflalomgifeaaaaDoor
