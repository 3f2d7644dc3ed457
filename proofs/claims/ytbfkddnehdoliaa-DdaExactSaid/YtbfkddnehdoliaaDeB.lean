/-
  Layer 42: DdaExact.
-/
import Derived.Test.YtbfkddnehdoliaaProg
import Derived.Test.YtbfkddnehdoliaaFvX
import Derived.Test.YtbfkddnehdoliaaFvZ
import Derived.Test.YtbfkddnehdoliaaAut
import Derived.Test.YtbfkddnehdoliaaAbA
import Derived.Test.YtbfkddnehdoliaaDeA
namespace Go.Proofs.Ytbfkddnehdoliaa
open Go
def qq (y n i : Int) : Int := (2 * i * y + n) / (2 * n)
theorem qq_half {n : Int} (h : 1 ≤ n) : n / (2 * n) = 0 := Int.ediv_eq_zero_of_lt (by omega) (by omega)
theorem qq_zero {y n : Int} (h : 1 ≤ n) : qq y n 0 = 0 := by
  unfold qq; rw [Int.mul_zero, Int.zero_mul, Int.zero_add, qq_half h]
theorem qq_end {y n : Int} (h : 1 ≤ n) : qq y n n = y := by
  unfold qq
  rw [show 2 * n * y + n = n + y * (2 * n) by grind, Int.add_mul_ediv_right _ _ (by omega), qq_half h]; omega
theorem qq_all {n i : Int} (h : 1 ≤ n) : qq n n i = i := by
  unfold qq
  rw [show 2 * i * n + n = n + i * (2 * n) by grind, Int.add_mul_ediv_right _ _ (by omega), qq_half h]; omega
theorem qq_step {y n i : Int} (h : 1 ≤ n) (h0 : 0 ≤ y) (h1 : y ≤ n) : qq y n (i - 1) ≤ qq y n i ∧ qq y n i ≤ qq y n (i - 1) + 1 := by
  unfold qq
  have e : 2 * i * y + n = 2 * (i - 1) * y + n + 2 * y := by grind
  rw [e]
  generalize 2 * (i - 1) * y + n = A
  refine ⟨Int.ediv_le_ediv (by omega) (by omega), ?_⟩
  rw [← Int.add_mul_ediv_right A 1 (by omega)]
  exact Int.ediv_le_ediv (by omega) (by omega)
theorem qq_bd {y n i : Int} (h : 1 ≤ n) (h0 : 0 ≤ y) (h1 : y ≤ n) (i0 : 0 ≤ i) (i1 : i ≤ n) : 0 ≤ qq y n i ∧ qq y n i ≤ n := by
  unfold qq
  have p0 : 0 ≤ 2 * i * y := Int.mul_nonneg (by omega) h0
  have p1 : 2 * i * y ≤ 2 * n * n := Int.mul_le_mul (by omega) h1 h0 (by omega)
  refine ⟨Int.ediv_nonneg (by omega) (by omega), ?_⟩
  refine Int.lt_add_one_iff.1 (Int.ediv_lt_of_lt_mul (by omega) ?_)
  have : (n + 1) * (2 * n) = 2 * n * n + 2 * n := by grind
  omega
theorem mot_nice {x n i : Int} (h : 1 ≤ n) (h2 : n ≤ 16777216) (hx : -n ≤ x) (hx2 : x ≤ n) (i0 : 0 ≤ i) (i1 : i ≤ n) : mot x n i = (if x < 0 then - qq (-x) n i else qq x n i) := by
  have c1 : (if n < i then n else i) = i := by split <;> omega
  have c2 : (if i > (0 : Int) then i else (0 : Int)) = i := by split <;> omega
  have w1 : IntKind.wrap IntKind.i64 ((2 : Int) * i) = 2 * i := IntWalk.i64_in _ ⟨by omega, by omega⟩
  have w2 : IntKind.wrap IntKind.i64 ((2 : Int) * n) = 2 * n := IntWalk.i64_in _ ⟨by omega, by omega⟩
  have w3 : IntKind.wrap IntKind.i64 ((0 : Int) - x) = -x := by rw [Int.zero_sub]; exact IntWalk.i64_in _ ⟨by omega, by omega⟩
  obtain ⟨y, hy⟩ : ∃ y, (if -x > x then -x else x) = y := ⟨_, rfl⟩
  have y0 : 0 ≤ y ∧ y ≤ n ∧ ((x < 0 ∧ y = -x) ∨ (0 ≤ x ∧ y = x)) := by subst hy; split <;> omega
  have p0 : 0 ≤ 2 * i * y := Int.mul_nonneg (by omega) (by omega)
  have p1 : 2 * i * y ≤ 33554432 * 16777216 := Int.mul_le_mul (by omega) (by omega) (by omega) (by omega)
  have w4 : IntKind.wrap IntKind.i64 (2 * i * y) = 2 * i * y := IntWalk.i64_in _ ⟨by omega, by omega⟩
  have w5 : IntKind.wrap IntKind.i64 (2 * i * y + n) = 2 * i * y + n := IntWalk.i64_in _ ⟨by omega, by omega⟩
  have b := qq_bd (y := y) (i := i) h y0.1 y0.2.1 i0 i1
  have w6 : IntKind.wrap IntKind.i64 (qq y n i) = qq y n i := IntWalk.i64_in _ ⟨by omega, by omega⟩
  have w7 : IntKind.wrap IntKind.i64 ((0 : Int) - qq y n i) = - qq y n i := by rw [Int.zero_sub]; exact IntWalk.i64_in _ ⟨by omega, by omega⟩
  have e : Int.tdiv (2 * i * y + n) (2 * n) = qq y n i := Int.tdiv_eq_ediv_of_nonneg (by omega)
  unfold mot
  simp only [c1, c2, w1, w2, w3, hy, w4, w5, e, w6, w7]
  rcases y0.2.2 with ⟨a, b⟩ | ⟨a, b⟩
  · rw [decide_eq_true a, if_pos a, b]; rfl
  · rw [decide_eq_false (by omega), if_neg (by omega), b]; rfl
theorem mot_step {x n i : Int} (h : 1 ≤ n) (h2 : n ≤ 16777216) (hx : -n ≤ x) (hx2 : x ≤ n) (i0 : 1 ≤ i) (i1 : i ≤ n) : ∃ p, IntKind.wrap IntKind.i64 (mot x n i - mot x n (IntKind.wrap IntKind.i64 (i - 1))) = p ∧ IntKind.wrap IntKind.i64 (mot x n (i - 1) + p) = mot x n i ∧ (p = 0 ∨ (0 < x ∧ p = 1) ∨ (x < 0 ∧ p = -1)) ∧ ((x = n ∨ x = -n) → p ≠ 0) := by
  have w : IntKind.wrap IntKind.i64 (i - 1) = i - 1 := IntWalk.i64_in _ ⟨by omega, by omega⟩
  rw [w, mot_nice h h2 hx hx2 (by omega) i1, mot_nice h h2 hx hx2 (by omega) (by omega)]
  by_cases s : x < 0
  · rw [if_pos s, if_pos s]
    have st := qq_step (y := -x) (i := i) h (by omega) (by omega)
    have b1 := qq_bd (y := -x) (i := i) h (by omega) (by omega) (by omega) i1
    have b2 := qq_bd (y := -x) (i := i - 1) h (by omega) (by omega) (by omega) (by omega)
    have f : x = -n → qq (-x) n i = i ∧ qq (-x) n (i - 1) = i - 1 := by
      intro hh; rw [show -x = n by omega]; exact ⟨qq_all h, qq_all h⟩
    refine ⟨-qq (-x) n i - -qq (-x) n (i - 1), IntWalk.i64_in _ ⟨by omega, by omega⟩, ?_, by omega, by omega⟩
    rw [IntWalk.i64_in _ ⟨by omega, by omega⟩]; omega
  · rw [if_neg s, if_neg s]
    have st := qq_step (y := x) (i := i) h (by omega) (by omega)
    have b1 := qq_bd (y := x) (i := i) h (by omega) (by omega) (by omega) i1
    have b2 := qq_bd (y := x) (i := i - 1) h (by omega) (by omega) (by omega) (by omega)
    have f : x = n → qq x n i = i ∧ qq x n (i - 1) = i - 1 := by
      intro hh; rw [hh]; exact ⟨qq_all h, qq_all h⟩
    have g : x = 0 → qq x n i = 0 ∧ qq x n (i - 1) = 0 := by
      intro hh; rw [hh]; unfold qq; rw [Int.mul_zero, Int.zero_add, Int.mul_zero, Int.zero_add]; exact ⟨qq_half h, qq_half h⟩
    refine ⟨qq x n i - qq x n (i - 1), IntWalk.i64_in _ ⟨by omega, by omega⟩, ?_, by omega, by omega⟩
    rw [IntWalk.i64_in _ ⟨by omega, by omega⟩]; omega
theorem mot_ends {x n : Int} (h : 1 ≤ n) (h2 : n ≤ 16777216) (hx : -n ≤ x) (hx2 : x ≤ n) : mot x n 0 = 0 ∧ mot x n n = x := by
  rw [mot_nice h h2 hx hx2 (by omega) (by omega), mot_nice h h2 hx hx2 (by omega) (by omega), qq_zero h, qq_zero h, qq_end h, qq_end h]
  constructor <;> split <;> omega
theorem dex_fine {x n p : Int} (h : 1 ≤ n) (h2 : n ≤ 16777216) (h3 : p = 0 ∨ (0 < x ∧ p = 1) ∨ (x < 0 ∧ p = -1)) (h4 : (x = n ∨ x = -n) → p ≠ 0) : (bif bif p != (0 : Int) then p != bif decide (x > (0 : Int)) then (1 : Int) else bif decide (x < (0 : Int)) then (-1 : Int) else (0 : Int) else false then true else bif x == n then bif true then p == (0 : Int) else false else bif x == IntKind.wrap IntKind.i64 ((0 : Int) - n) then p == (0 : Int) else false) = false := by
  have w : IntKind.wrap IntKind.i64 ((0 : Int) - n) = -n := by rw [Int.zero_sub]; exact IntWalk.i64_in _ ⟨by omega, by omega⟩
  rw [w]
  have k : ∀ q : Bool, (x = n ∨ x = -n → q = false) → (bif x == n then bif true then q else false else bif x == -n then q else false) = false := by
    intro q hq
    by_cases e1 : x = n
    · rw [hq (.inl e1)]; simp
    · by_cases e2 : x = -n
      · rw [hq (.inr e2)]; simp
      · have d1 : (x == n) = false := beq_false_of_ne e1
        have d2 : (x == -n) = false := beq_false_of_ne e2
        rw [d1, d2]; rfl
  rw [k _ (fun hh => beq_false_of_ne (h4 hh))]
  rcases h3 with e | ⟨e1, e⟩ | ⟨e1, e⟩
  · subst e; rfl
  · subst e; rw [decide_eq_true (show x > 0 from e1)]; rfl
  · subst e; rw [decide_eq_false (show ¬ x > 0 by omega), decide_eq_true e1]; rfl
abbrev dex_U : Type := Int × Int × Int × Int × Int
abbrev dex_V : Type := Bool × Int × Int × Int × Int × Int
def dex_St (u : dex_U) (v : dex_V) : Stt := ⟨[.one .junk, .one (.p 0 0), .one (.v false (.bool v.1)), .one (.v false (.int .i64 u.1)), .one (.p 10 0), .one (.v false (.int .i64 v.2.1)), .one .junk, .one .junk, .one .junk, .one .junk, .one .junk, .one .junk, .one .junk, .one .junk, .one .junk, .one .junk, .one .junk, .one .junk, .one .junk, .one .junk, .one .junk, .one .junk, .one .junk, .one .junk, .one .junk, .one .junk, .one .junk, .one .junk, .one .junk, .one .junk, .one .junk, .one .junk, .one .junk, .one .junk, .one .junk, .one .junk, .one .junk, .one .junk, .one .junk, .one .junk, .one .junk, .one .junk, .one .junk, .one .junk, .one .junk, .one .junk, .one .junk, .one .junk, .one .junk, .one .junk, .one .junk, .one .junk, .one .junk, .one .junk, .one .junk, .one .junk, .one .junk, .one .junk, .one .junk, .one .junk, .one .junk, .one .junk, .one .junk, .one .junk, .one .junk, .one .junk, .one .junk, .one .junk, .one .junk, .one .junk, .one .junk, .one .junk, .one .junk, .one .junk, .one .junk, .one .junk, .one .junk, .one .junk, .one .junk, .one .junk, .one .junk, .one .junk, .one .junk, .one .junk, .one .junk, .one .junk, .one .junk, .one .junk, .one .junk, .one .junk, .one .junk, .one .junk, .one .junk, .one .junk, .one .junk, .one .junk, .one .junk, .one .junk, .one .junk, .one .junk, .one .junk, .one .junk, .one .junk], [(10, .cells [.v false (.int .i64 v.2.2.1), .v false (.int .i64 v.2.2.2.1), .v false (.int .i64 v.2.2.2.2.1), .v false (.int .i64 v.2.2.2.2.2)]), (0, .cells [.v false (.int .i64 u.2.1), .v false (.int .i64 u.2.2.1), .v false (.int .i64 u.2.2.2.1), .v false (.int .i64 u.2.2.2.2)])], 1012⟩
def dex_step (u : dex_U) (v : dex_V) : Tr (dex_V ⊕ (Nat × dex_V)) :=
  match u, v with
  | (n, a, b, c, d), (re, i, sa, sb, sc, sd) => .br (decide (i ≤ n)) (.br (bif bif pul a a b c d i != (0 : Int) then pul a a b c d i != bif decide (a > (0 : Int)) then (1 : Int) else bif decide (a < (0 : Int)) then (-1 : Int) else (0 : Int) else false then true else bif a == n then bif true then pul a a b c d i == (0 : Int) else false else bif a == IntKind.wrap IntKind.i64 ((0 : Int) - n) then pul a a b c d i == (0 : Int) else false) (.ret (.inr (0, (false, i, sa, sb, sc, sd)))) (.br (bif bif pul b a b c d i != (0 : Int) then pul b a b c d i != bif decide (b > (0 : Int)) then (1 : Int) else bif decide (b < (0 : Int)) then (-1 : Int) else (0 : Int) else false then true else bif b == n then bif true then pul b a b c d i == (0 : Int) else false else bif b == IntKind.wrap IntKind.i64 ((0 : Int) - n) then pul b a b c d i == (0 : Int) else false) (.ret (.inr (0, (false, i, IntKind.wrap IntKind.i64 (sa + pul a a b c d i), sb, sc, sd)))) (.br (bif bif pul c a b c d i != (0 : Int) then pul c a b c d i != bif decide (c > (0 : Int)) then (1 : Int) else bif decide (c < (0 : Int)) then (-1 : Int) else (0 : Int) else false then true else bif c == n then bif true then pul c a b c d i == (0 : Int) else false else bif c == IntKind.wrap IntKind.i64 ((0 : Int) - n) then pul c a b c d i == (0 : Int) else false) (.ret (.inr (0, (false, i, IntKind.wrap IntKind.i64 (sa + pul a a b c d i), IntKind.wrap IntKind.i64 (sb + pul b a b c d i), sc, sd)))) (.br (bif bif pul d a b c d i != (0 : Int) then pul d a b c d i != bif decide (d > (0 : Int)) then (1 : Int) else bif decide (d < (0 : Int)) then (-1 : Int) else (0 : Int) else false then true else bif d == n then bif true then pul d a b c d i == (0 : Int) else false else bif d == IntKind.wrap IntKind.i64 ((0 : Int) - n) then pul d a b c d i == (0 : Int) else false) (.ret (.inr (0, (false, i, IntKind.wrap IntKind.i64 (sa + pul a a b c d i), IntKind.wrap IntKind.i64 (sb + pul b a b c d i), IntKind.wrap IntKind.i64 (sc + pul c a b c d i), sd)))) (.br (match false with | true => atm a a b c d i == IntKind.wrap IntKind.i64 (sa + pul a a b c d i) && (atm b a b c d i == IntKind.wrap IntKind.i64 (sb + pul b a b c d i) && (atm c a b c d i == IntKind.wrap IntKind.i64 (sc + pul c a b c d i) && (atm d a b c d i == IntKind.wrap IntKind.i64 (sd + pul d a b c d i) && true))) | false => !(atm a a b c d i == IntKind.wrap IntKind.i64 (sa + pul a a b c d i) && (atm b a b c d i == IntKind.wrap IntKind.i64 (sb + pul b a b c d i) && (atm c a b c d i == IntKind.wrap IntKind.i64 (sc + pul c a b c d i) && (atm d a b c d i == IntKind.wrap IntKind.i64 (sd + pul d a b c d i) && true))))) (.ret (.inr (0, (false, i, IntKind.wrap IntKind.i64 (sa + pul a a b c d i), IntKind.wrap IntKind.i64 (sb + pul b a b c d i), IntKind.wrap IntKind.i64 (sc + pul c a b c d i), IntKind.wrap IntKind.i64 (sd + pul d a b c d i))))) (.ret (.inl (re, IntKind.wrap IntKind.i64 (i + (1 : Int)), IntKind.wrap IntKind.i64 (sa + pul a a b c d i), IntKind.wrap IntKind.i64 (sb + pul b a b c d i), IntKind.wrap IntKind.i64 (sc + pul c a b c d i), IntKind.wrap IntKind.i64 (sd + pul d a b c d i))))))))) (.ret (.inr (1, (re, i, sa, sb, sc, sd))))
set_option maxRecDepth 100000 in
set_option maxHeartbeats 4000000 in
theorem dex_step_eq : ∀ (u : dex_U) (v : dex_V), (evalC Try.prog (evalB Try.prog deA_S64 (opens []) L0 7).1 (evalB Try.prog deA_S64 (opens []) L0 7).2 (opens []) (L0 10) 100000 (0 :: [0, 1, 0, 1, 1, 1, 1, 1]) (loopOf (bodyOf Try.prog 10) [1, 1, 1, 1, 1, 0, 1, 0]) (dex_St u v) []).bind (finF [0, 6, 7, 8, 9, 10, 11, 12, 13, 14, 15, 16, 17, 18, 19, 20, 21, 22, 23, 24, 25, 26, 27, 28, 29, 30, 31, 32, 33, 34, 35, 36, 37, 38, 39, 40, 41, 42, 43, 44, 45, 46, 47, 48, 49, 50, 51, 52, 53, 54, 55, 56, 57, 58, 59, 60, 61, 62, 63, 64, 65, 66, 67, 68, 69, 70, 71, 72, 73, 74, 75, 76, 77, 78, 79, 80, 81, 82, 83, 84, 85, 86, 87, 88, 89, 90, 91, 92, 93, 94, 95, 96, 97, 98, 99, 100, 101, 102] [] [10, 0] [] 1012) = (dex_step u v).bind (outA (dex_St u) [.ret, .exit 0]) := by
  rintro ⟨n, a, b, c, d⟩ ⟨re, i, sa, sb, sc, sd⟩
  kernel_rfl
def dex_rd (b : Bool) (tm : List (Option AV)) (own : Own) : Option (dex_U × dex_V) :=
  match b, tm, own with
  | true, [some (.one (.p 0 0)), some (.one (.v false (.bool re))), some (.one (.v false (.int .i64 n))), some (.one (.p 10 0)), some (.one (.v false (.int .i64 i)))], [(10, .cells [.v false (.int .i64 sa), .v false (.int .i64 sb), .v false (.int .i64 sc), .v false (.int .i64 sd)]), (0, .cells [.v false (.int .i64 a), .v false (.int .i64 b), .v false (.int .i64 c), .v false (.int .i64 d)])] => some ((n, a, b, c, d), (re, i, sa, sb, sc, sd))
  | _, _, _ => none
def dex_can (st : Stt) : Stt := canA [0, 6, 7, 8, 9, 10, 11, 12, 13, 14, 15, 16, 17, 18, 19, 20, 21, 22, 23, 24, 25, 26, 27, 28, 29, 30, 31, 32, 33, 34, 35, 36, 37, 38, 39, 40, 41, 42, 43, 44, 45, 46, 47, 48, 49, 50, 51, 52, 53, 54, 55, 56, 57, 58, 59, 60, 61, 62, 63, 64, 65, 66, 67, 68, 69, 70, 71, 72, 73, 74, 75, 76, 77, 78, 79, 80, 81, 82, 83, 84, 85, 86, 87, 88, 89, 90, 91, 92, 93, 94, 95, 96, 97, 98, 99, 100, 101, 102] [] [10, 0] [] 1012 st
def dex_cok (st : Stt) : Bool := canAok [0, 6, 7, 8, 9, 10, 11, 12, 13, 14, 15, 16, 17, 18, 19, 20, 21, 22, 23, 24, 25, 26, 27, 28, 29, 30, 31, 32, 33, 34, 35, 36, 37, 38, 39, 40, 41, 42, 43, 44, 45, 46, 47, 48, 49, 50, 51, 52, 53, 54, 55, 56, 57, 58, 59, 60, 61, 62, 63, 64, 65, 66, 67, 68, 69, 70, 71, 72, 73, 74, 75, 76, 77, 78, 79, 80, 81, 82, 83, 84, 85, 86, 87, 88, 89, 90, 91, 92, 93, 94, 95, 96, 97, 98, 99, 100, 101, 102] [] [10, 0] [] 1012 st
def dex_read (st : Stt) : Option (dex_U × dex_V) := dex_rd (dex_cok st && (staysA [] [10, 0] st.own && juAll [0, 6, 7, 8, 9, 10, 11, 12, 13, 14, 15, 16, 17, 18, 19, 20, 21, 22, 23, 24, 25, 26, 27, 28, 29, 30, 31, 32, 33, 34, 35, 36, 37, 38, 39, 40, 41, 42, 43, 44, 45, 46, 47, 48, 49, 50, 51, 52, 53, 54, 55, 56, 57, 58, 59, 60, 61, 62, 63, 64, 65, 66, 67, 68, 69, 70, 71, 72, 73, 74, 75, 76, 77, 78, 79, 80, 81, 82, 83, 84, 85, 86, 87, 88, 89, 90, 91, 92, 93, 94, 95, 96, 97, 98, 99, 100, 101, 102] (dex_can st).tm 103)) [(dex_can st).tm[1]?, (dex_can st).tm[2]?, (dex_can st).tm[3]?, (dex_can st).tm[4]?, (dex_can st).tm[5]?] (dex_can st).own
set_option maxRecDepth 100000 in
set_option maxHeartbeats 4000000 in
theorem dex_rd_ok {b : Bool} {tm : List AV} {own : Own} {u : dex_U} {v : dex_V} (hj : b = true → juAll [0, 6, 7, 8, 9, 10, 11, 12, 13, 14, 15, 16, 17, 18, 19, 20, 21, 22, 23, 24, 25, 26, 27, 28, 29, 30, 31, 32, 33, 34, 35, 36, 37, 38, 39, 40, 41, 42, 43, 44, 45, 46, 47, 48, 49, 50, 51, 52, 53, 54, 55, 56, 57, 58, 59, 60, 61, 62, 63, 64, 65, 66, 67, 68, 69, 70, 71, 72, 73, 74, 75, 76, 77, 78, 79, 80, 81, 82, 83, 84, 85, 86, 87, 88, 89, 90, 91, 92, 93, 94, 95, 96, 97, 98, 99, 100, 101, 102] tm 103 = true) (h : dex_rd b [tm[1]?, tm[2]?, tm[3]?, tm[4]?, tm[5]?] own = some (u, v)) : b = true ∧ tm = (dex_St u v).tm ∧ own = (dex_St u v).own := by
  unfold dex_rd at h
  split at h
  · rename_i re n i sa sb sc sd a b c d ht
    simp only [List.cons.injEq, and_true] at ht
    cases h
    refine ⟨rfl, (tm_fill (hj rfl) (Lv := [(1, .one (.p 0 0)), (2, .one (.v false (.bool re))), (3, .one (.v false (.int .i64 n))), (4, .one (.p 10 0)), (5, .one (.v false (.int .i64 i)))]) (by kernel_rfl) (by simp only [allGet, ht, and_true])).trans (by kernel_rfl), rfl⟩
  · cases h
theorem dex_read_ok (st : Stt) (u : dex_U) (v : dex_V) (h : dex_read st = some (u, v)) : dex_cok st = true ∧ staysA [] [10, 0] st.own = true ∧ dex_can st = dex_St u v := by
  obtain ⟨h1, h2, h3⟩ := dex_rd_ok (fun hb => by rw [Bool.and_eq_true, Bool.and_eq_true] at hb; exact hb.2.2) h
  rw [Bool.and_eq_true, Bool.and_eq_true] at h1
  refine ⟨h1.1, h1.2.1, ?_⟩
  have e : dex_can st = ⟨(dex_can st).tm, (dex_can st).own, 1012⟩ := by kernel_rfl
  rw [e, h2, h3]
  rfl
noncomputable def dex_cond (u : dex_U) (v : dex_V) : Bool := runC (dex_step u) v
noncomputable def dex_g (u : dex_U) (v : dex_V) : Nat × dex_V := runG (dex_step u) v
theorem dex_hg : ∀ (u : dex_U) (v : dex_V), dex_cond u v = true → loopN (dex_step u) ((fun u v => runF (dex_step u) v) u v) v = some (dex_g u v) := by
  exact fun u v h => run_hg h
noncomputable def dex_m (st : Stt) : Option (Tr (Ex × Stt)) := sumM dex_read dex_cond dex_St dex_g [(0, .ret), (1, .exit 0)] st
noncomputable def deB_L61 : FuncId → Loops := addL 10 [0, 1, 0, 1, 1, 1, 1, 1] dex_m L0
set_option maxRecDepth 100000 in
set_option maxHeartbeats 4000000 in
theorem deB_L61_ok : LoopsOK Try.prog deB_L61 :=
  loop_sumF (body := (bodyOf Try.prog 10)) (c := (loopOf (bodyOf Try.prog 10) [1, 1, 1, 1, 1, 0, 1, 0])) (kinds := [.ret, .exit 0]) (allow := [(0, .ret), (1, .exit 0)]) (St := dex_St) (step := dex_step) (W := [0, 6, 7, 8, 9, 10, 11, 12, 13, 14, 15, 16, 17, 18, 19, 20, 21, 22, 23, 24, 25, 26, 27, 28, 29, 30, 31, 32, 33, 34, 35, 36, 37, 38, 39, 40, 41, 42, 43, 44, 45, 46, 47, 48, 49, 50, 51, 52, 53, 54, 55, 56, 57, 58, 59, 60, 61, 62, 63, 64, 65, 66, 67, 68, 69, 70, 71, 72, 73, 74, 75, 76, 77, 78, 79, 80, 81, 82, 83, 84, 85, 86, 87, 88, 89, 90, 91, 92, 93, 94, 95, 96, 97, 98, 99, 100, 101, 102]) (As := []) (ks := [10, 0]) (dd := []) (nx := 1012) (n := 100000) (g := dex_g) (cond := dex_cond) (fuel := (fun u v => runF (dex_step u) v)) (read := dex_read) (by kernel_rfl) (deA_S64_ok) (L0_ok _) 7 ⟨Try.f10, by kernel_rfl, by kernel_rfl⟩ (by kernel_rfl) (by kernel_rfl) (by kernel_rfl) dex_step_eq dex_hg dex_read_ok
theorem dex_run {a b c d n : Int} (hv : dval a b c d = true) (hn : n = dom a b c d) : dex_cond (n, a, b, c, d) (false, 1, 0, 0, 0, 0) = true ∧ (dex_g (n, a, b, c, d) (false, 1, 0, 0, 0, 0)).1 = 1 ∧ (dex_g (n, a, b, c, d) (false, 1, 0, 0, 0, 0)).2.2.2 = (a, b, c, d) := by
  have hd := dom_in a b c d
  have n1 := hd.2.2 hv
  have k := (dom_spec hv).1
  have e0a := mot_ends (x := a) n1 hd.2.1 (by omega) (by omega)
  have e0b := mot_ends (x := b) n1 hd.2.1 (by omega) (by omega)
  have e0c := mot_ends (x := c) n1 hd.2.1 (by omega) (by omega)
  have e0d := mot_ends (x := d) n1 hd.2.1 (by omega) (by omega)
  refine run_inv (step := dex_step (n, a, b, c, d)) (Inv := fun v => 1 ≤ v.2.1 ∧ v.2.1 ≤ n + 1 ∧ v.2.2 = (mot a n (v.2.1 - 1), mot b n (v.2.1 - 1), mot c n (v.2.1 - 1), mot d n (v.2.1 - 1))) (μ := fun v => (n + 1 - v.2.1).toNat) (Q := fun r => r.1 = 1 ∧ r.2.2.2 = (a, b, c, d)) ?_ (false, 1, 0, 0, 0, 0) ⟨Int.le_refl _, by show (1 : Int) ≤ n + 1; omega, ?_⟩
  · rintro ⟨re, i, sa, sb, sc, sd⟩ ⟨hi, hi2, hs⟩
    dsimp only at hi hi2 hs
    injection hs with h1 hs
    injection hs with h2 hs
    injection hs with h3 h4
    unfold dex_step
    dsimp only
    by_cases h : i ≤ n
    · obtain ⟨pa, a1, a2, a3, a4⟩ := mot_step (x := a) (n := n) (i := i) (by omega) (by omega) (by omega) (by omega) hi h
      obtain ⟨pb, b1, b2, b3, b4⟩ := mot_step (x := b) (n := n) (i := i) (by omega) (by omega) (by omega) (by omega) hi h
      obtain ⟨pc, c1, c2, c3, c4⟩ := mot_step (x := c) (n := n) (i := i) (by omega) (by omega) (by omega) (by omega) hi h
      obtain ⟨pd, d1, d2, d3, d4⟩ := mot_step (x := d) (n := n) (i := i) (by omega) (by omega) (by omega) (by omega) hi h
      have P : ∀ x p, IntKind.wrap IntKind.i64 (mot x n i - mot x n (IntKind.wrap IntKind.i64 (i - 1))) = p → pul x a b c d i = p := by
        intro x p hp
        unfold pul atm
        rw [hv, ← hn, decide_eq_false (by omega), decide_eq_false (by omega)]
        exact hp
      have A : ∀ x, atm x a b c d i = mot x n i := by
        intro x; unfold atm; rw [hv, ← hn]; rfl
      have w : IntKind.i64.wrap (i + 1) = i + 1 := IntWalk.i64_in _ ⟨by omega, by omega⟩
      rw [P a pa a1, P b pb b1, P c pc c1, P d pd d1, A, A, A, A, w, h1, h2, h3, h4, a2, b2, c2, d2]
      have fa := dex_fine (x := a) (n := n) (by omega) (by omega) a3 a4
      have fb := dex_fine (x := b) (n := n) (by omega) (by omega) b3 b4
      have fc := dex_fine (x := c) (n := n) (by omega) (by omega) c3 c4
      have fd := dex_fine (x := d) (n := n) (by omega) (by omega) d3 d4
      rw [fa, fb, fc, fd]
      simp only [Tr.all]
      refine ⟨fun _ => ⟨(fun h => by cases h), fun _ => ⟨(fun h => by cases h), fun _ => ⟨(fun h => by cases h), fun _ => ⟨(fun h => by cases h), fun _ => ⟨fun c1 => ?_, fun _ => ⟨⟨by omega, by omega, ?_⟩, by omega⟩⟩⟩⟩⟩⟩, fun c1 => ?_⟩
      · simp at c1
      · rw [show i + 1 - 1 = i by omega]
      · simp at c1; omega
    · have e : i = n + 1 := by omega
      simp only [Tr.all]
      refine ⟨fun c1 => ?_, fun c1 => ⟨by trivial, ?_⟩⟩
      · simp at c1; omega
      · rw [h1, h2, h3, h4, e, show n + 1 - 1 = n by omega, hn, e0a.2, e0b.2, e0c.2, e0d.2]
  · show (0, 0, 0, 0) = (mot a n (1 - 1), mot b n (1 - 1), mot c n (1 - 1), mot d n (1 - 1))
    rw [show (1 : Int) - 1 = 0 by rfl, hn, e0a.1, e0b.1, e0c.1, e0d.1]
set_option maxRecDepth 100000 in
theorem law_DdaExact_tree (a : Int) (b : Int) (c : Int) (d : Int) : evalF Try.prog deA_S64 (opens []) deB_L61 9 10 [.ag [.v false (.int .i64 a), .v false (.int .i64 b), .v false (.int .i64 c), .v false (.int .i64 d)]] = .br ((bif decide (dom a b c d > (300 : Int)) then true else (bif !dval a b c d then true else ((dex_cond (dom a b c d, a, b, c, d) (false, (1 : Int), (0 : Int), (0 : Int), (0 : Int), (0 : Int))) && (bif Nat.beq (Prod.fst (dex_g (dom a b c d, a, b, c, d) (false, (1 : Int), (0 : Int), (0 : Int), (0 : Int), (0 : Int)))) (0 : Nat) then true else (Nat.beq (Prod.fst (dex_g (dom a b c d, a, b, c, d) (false, (1 : Int), (0 : Int), (0 : Int), (0 : Int), (0 : Int)))) (1 : Nat))))))) (.ret (.one (.v false (.bool (bif decide (dom a b c d > (300 : Int)) then true else bif !dval a b c d then bif bif bif dom a b c d == (0 : Int) then match true with | true => atm a a b c d (1 : Int) == (0 : Int) && (atm b a b c d (1 : Int) == (0 : Int) && (atm c a b c d (1 : Int) == (0 : Int) && (atm d a b c d (1 : Int) == (0 : Int) && true))) | false => !(atm a a b c d (1 : Int) == (0 : Int) && (atm b a b c d (1 : Int) == (0 : Int) && (atm c a b c d (1 : Int) == (0 : Int) && (atm d a b c d (1 : Int) == (0 : Int) && true)))) else false then match true with | true => pul a a b c d (1 : Int) == (0 : Int) && (pul b a b c d (1 : Int) == (0 : Int) && (pul c a b c d (1 : Int) == (0 : Int) && (pul d a b c d (1 : Int) == (0 : Int) && true))) | false => !(pul a a b c d (1 : Int) == (0 : Int) && (pul b a b c d (1 : Int) == (0 : Int) && (pul c a b c d (1 : Int) == (0 : Int) && (pul d a b c d (1 : Int) == (0 : Int) && true)))) else false then true else false else bif Nat.beq (Prod.fst (dex_g (dom a b c d, a, b, c, d) (false, (1 : Int), (0 : Int), (0 : Int), (0 : Int), (0 : Int)))) (0 : Nat) then Prod.fst (Prod.snd (dex_g (dom a b c d, a, b, c, d) (false, (1 : Int), (0 : Int), (0 : Int), (0 : Int), (0 : Int)))) else bif bif match true with | true => Prod.fst (Prod.snd (Prod.snd (Prod.snd (dex_g (dom a b c d, a, b, c, d) (false, (1 : Int), (0 : Int), (0 : Int), (0 : Int), (0 : Int)))))) == Prod.fst (Prod.snd (dom a b c d, a, b, c, d)) && (Prod.fst (Prod.snd (Prod.snd (Prod.snd (Prod.snd (dex_g (dom a b c d, a, b, c, d) (false, (1 : Int), (0 : Int), (0 : Int), (0 : Int), (0 : Int))))))) == Prod.fst (Prod.snd (Prod.snd (dom a b c d, a, b, c, d))) && (Prod.fst (Prod.snd (Prod.snd (Prod.snd (Prod.snd (Prod.snd (dex_g (dom a b c d, a, b, c, d) (false, (1 : Int), (0 : Int), (0 : Int), (0 : Int), (0 : Int)))))))) == Prod.fst (Prod.snd (Prod.snd (Prod.snd (dom a b c d, a, b, c, d)))) && (Prod.snd (Prod.snd (Prod.snd (Prod.snd (Prod.snd (Prod.snd (dex_g (dom a b c d, a, b, c, d) (false, (1 : Int), (0 : Int), (0 : Int), (0 : Int), (0 : Int)))))))) == Prod.snd (Prod.snd (Prod.snd (Prod.snd (dom a b c d, a, b, c, d)))) && true))) | false => !(Prod.fst (Prod.snd (Prod.snd (Prod.snd (dex_g (dom a b c d, a, b, c, d) (false, (1 : Int), (0 : Int), (0 : Int), (0 : Int), (0 : Int)))))) == Prod.fst (Prod.snd (dom a b c d, a, b, c, d)) && (Prod.fst (Prod.snd (Prod.snd (Prod.snd (Prod.snd (dex_g (dom a b c d, a, b, c, d) (false, (1 : Int), (0 : Int), (0 : Int), (0 : Int), (0 : Int))))))) == Prod.fst (Prod.snd (Prod.snd (dom a b c d, a, b, c, d))) && (Prod.fst (Prod.snd (Prod.snd (Prod.snd (Prod.snd (Prod.snd (dex_g (dom a b c d, a, b, c, d) (false, (1 : Int), (0 : Int), (0 : Int), (0 : Int), (0 : Int)))))))) == Prod.fst (Prod.snd (Prod.snd (Prod.snd (dom a b c d, a, b, c, d)))) && (Prod.snd (Prod.snd (Prod.snd (Prod.snd (Prod.snd (Prod.snd (dex_g (dom a b c d, a, b, c, d) (false, (1 : Int), (0 : Int), (0 : Int), (0 : Int), (0 : Int)))))))) == Prod.snd (Prod.snd (Prod.snd (Prod.snd (dom a b c d, a, b, c, d)))) && true)))) then decide (Prod.fst (dom a b c d, a, b, c, d) > (0 : Int)) else false then true else false))))) (.bad 116) := by kernel_rfl
set_option maxHeartbeats 4000000 in
theorem law_DdaExact_all (a : Int) (b : Int) (c : Int) (d : Int) (r0 : Ty.InR (.prod (.int .i64) (.prod (.int .i64) (.prod (.int .i64) (.int .i64)))) (a, (b, (c, d))))  : Tr.all (fun r => ∃ kn, r = AV.one (.v kn (.bool true))) (.br ((bif decide (dom a b c d > (300 : Int)) then true else (bif !dval a b c d then true else ((dex_cond (dom a b c d, a, b, c, d) (false, (1 : Int), (0 : Int), (0 : Int), (0 : Int), (0 : Int))) && (bif Nat.beq (Prod.fst (dex_g (dom a b c d, a, b, c, d) (false, (1 : Int), (0 : Int), (0 : Int), (0 : Int), (0 : Int)))) (0 : Nat) then true else (Nat.beq (Prod.fst (dex_g (dom a b c d, a, b, c, d) (false, (1 : Int), (0 : Int), (0 : Int), (0 : Int), (0 : Int)))) (1 : Nat))))))) (.ret (.one (.v false (.bool (bif decide (dom a b c d > (300 : Int)) then true else bif !dval a b c d then bif bif bif dom a b c d == (0 : Int) then match true with | true => atm a a b c d (1 : Int) == (0 : Int) && (atm b a b c d (1 : Int) == (0 : Int) && (atm c a b c d (1 : Int) == (0 : Int) && (atm d a b c d (1 : Int) == (0 : Int) && true))) | false => !(atm a a b c d (1 : Int) == (0 : Int) && (atm b a b c d (1 : Int) == (0 : Int) && (atm c a b c d (1 : Int) == (0 : Int) && (atm d a b c d (1 : Int) == (0 : Int) && true)))) else false then match true with | true => pul a a b c d (1 : Int) == (0 : Int) && (pul b a b c d (1 : Int) == (0 : Int) && (pul c a b c d (1 : Int) == (0 : Int) && (pul d a b c d (1 : Int) == (0 : Int) && true))) | false => !(pul a a b c d (1 : Int) == (0 : Int) && (pul b a b c d (1 : Int) == (0 : Int) && (pul c a b c d (1 : Int) == (0 : Int) && (pul d a b c d (1 : Int) == (0 : Int) && true)))) else false then true else false else bif Nat.beq (Prod.fst (dex_g (dom a b c d, a, b, c, d) (false, (1 : Int), (0 : Int), (0 : Int), (0 : Int), (0 : Int)))) (0 : Nat) then Prod.fst (Prod.snd (dex_g (dom a b c d, a, b, c, d) (false, (1 : Int), (0 : Int), (0 : Int), (0 : Int), (0 : Int)))) else bif bif match true with | true => Prod.fst (Prod.snd (Prod.snd (Prod.snd (dex_g (dom a b c d, a, b, c, d) (false, (1 : Int), (0 : Int), (0 : Int), (0 : Int), (0 : Int)))))) == Prod.fst (Prod.snd (dom a b c d, a, b, c, d)) && (Prod.fst (Prod.snd (Prod.snd (Prod.snd (Prod.snd (dex_g (dom a b c d, a, b, c, d) (false, (1 : Int), (0 : Int), (0 : Int), (0 : Int), (0 : Int))))))) == Prod.fst (Prod.snd (Prod.snd (dom a b c d, a, b, c, d))) && (Prod.fst (Prod.snd (Prod.snd (Prod.snd (Prod.snd (Prod.snd (dex_g (dom a b c d, a, b, c, d) (false, (1 : Int), (0 : Int), (0 : Int), (0 : Int), (0 : Int)))))))) == Prod.fst (Prod.snd (Prod.snd (Prod.snd (dom a b c d, a, b, c, d)))) && (Prod.snd (Prod.snd (Prod.snd (Prod.snd (Prod.snd (Prod.snd (dex_g (dom a b c d, a, b, c, d) (false, (1 : Int), (0 : Int), (0 : Int), (0 : Int), (0 : Int)))))))) == Prod.snd (Prod.snd (Prod.snd (Prod.snd (dom a b c d, a, b, c, d)))) && true))) | false => !(Prod.fst (Prod.snd (Prod.snd (Prod.snd (dex_g (dom a b c d, a, b, c, d) (false, (1 : Int), (0 : Int), (0 : Int), (0 : Int), (0 : Int)))))) == Prod.fst (Prod.snd (dom a b c d, a, b, c, d)) && (Prod.fst (Prod.snd (Prod.snd (Prod.snd (Prod.snd (dex_g (dom a b c d, a, b, c, d) (false, (1 : Int), (0 : Int), (0 : Int), (0 : Int), (0 : Int))))))) == Prod.fst (Prod.snd (Prod.snd (dom a b c d, a, b, c, d))) && (Prod.fst (Prod.snd (Prod.snd (Prod.snd (Prod.snd (Prod.snd (dex_g (dom a b c d, a, b, c, d) (false, (1 : Int), (0 : Int), (0 : Int), (0 : Int), (0 : Int)))))))) == Prod.fst (Prod.snd (Prod.snd (Prod.snd (dom a b c d, a, b, c, d)))) && (Prod.snd (Prod.snd (Prod.snd (Prod.snd (Prod.snd (Prod.snd (dex_g (dom a b c d, a, b, c, d) (false, (1 : Int), (0 : Int), (0 : Int), (0 : Int), (0 : Int)))))))) == Prod.snd (Prod.snd (Prod.snd (Prod.snd (dom a b c d, a, b, c, d)))) && true)))) then decide (Prod.fst (dom a b c d, a, b, c, d) > (0 : Int)) else false then true else false))))) (.bad 116)) := by
  cases hv : dval a b c d
  · have hd : dom a b c d = 0 := by unfold dom; rw [if_neg (by rw [hv]; decide)]
    have A : ∀ x i, atm x a b c d i = 0 := by intro x i; unfold atm; rw [hv]; rfl
    have P : ∀ x i, pul x a b c d i = 0 := by
      intro x i
      unfold pul
      rw [hd, A, A]
      by_cases h : i < 1
      · rw [decide_eq_true h]; rfl
      · rw [decide_eq_false h, decide_eq_true (show i > 0 by omega)]; rfl
    simp only [hd, A, P]
    exact ⟨fun _ => ⟨_, rfl⟩, fun h => by cases h⟩
  · have n1 := (dom_in a b c d).2.2 hv
    by_cases h3 : dom a b c d > 300
    · have d2 : decide (dom a b c d > (300 : Int)) = true := decide_eq_true h3
      simp only [d2, cond_true]
      exact ⟨fun _ => ⟨_, rfl⟩, fun h => by cases h⟩
    · have d2 : decide (dom a b c d > (300 : Int)) = false := decide_eq_false h3
      have d3 : decide (dom a b c d > (0 : Int)) = true := decide_eq_true (by omega)
      obtain ⟨r1, r2, r3⟩ := dex_run hv rfl
      simp only [d2, d3, r1, r2, r3, beq_self_eq_true]
      exact ⟨fun _ => ⟨_, rfl⟩, fun h => by cases h⟩
set_option maxHeartbeats 4000000 in
theorem law_DdaExact (v0 : Value) (x0 : ((.prod (.int .i64) (.prod (.int .i64) (.prod (.int .i64) (.int .i64)))) : Ty).den) (r0 : Ty.InR (.prod (.int .i64) (.prod (.int .i64) (.prod (.int .i64) (.int .i64)))) x0) (z_w : World) (i0 : (AV.ag (Ty.cells false (.prod (.int .i64) (.prod (.int .i64) (.prod (.int .i64) (.int .i64)))) x0)).is [] (fun _ => none) (fun b => b < z_w.heap.size) z_w v0) : Calls Try.prog 10 #[v0] z_w fun e w' => e = .returned (.bool true) ∧ Ext z_w w' := by
  obtain ⟨a, ⟨b, ⟨c, d⟩⟩⟩ := x0
  refine law_of_tree (by kernel_rfl) (deA_S64_ok) (deB_L61_ok) (law_DdaExact_tree a b c d) (law_DdaExact_all a b c d r0 ) rfl z_w _ _ (fun _ h => h) ⟨_, _, rfl, i0, rfl⟩
end Go.Proofs.Ytbfkddnehdoliaa
