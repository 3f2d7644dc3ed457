/-
  Layers 42, 46: the steps made after some steps of the dominant motor, and the pulses.
-/
import Derived.Test.YthhfhiggacdneaaProg
import Derived.Test.YthhfhiggacdneaaFvX
import Derived.Test.YthhfhiggacdneaaFvZ
import Derived.Test.YthhfhiggacdneaaAut
import Derived.Test.YthhfhiggacdneaaPl
import Derived.Test.YthhfhiggacdneaaSqr
import Derived.Test.YthhfhiggacdneaaPuA
namespace Go.Proofs.Ythhfhiggacdneaa
open Go
def cl (n i : Int) : Int := max 0 (min i n)
def rawq (n i x : Int) : Int := IntKind.wrap IntKind.i64 (Int.tdiv (IntKind.wrap IntKind.i64 (IntKind.wrap IntKind.i64 (IntKind.wrap IntKind.i64 ((2 : Int) * if (if n < i then n else i) > (0 : Int) then if n < i then n else i else (0 : Int)) * if IntKind.wrap IntKind.i64 ((0 : Int) - x) > x then IntKind.wrap IntKind.i64 ((0 : Int) - x) else x) + n)) (IntKind.wrap IntKind.i64 ((2 : Int) * n)))
def dz (n : Int) : Bool := (IntKind.wrap IntKind.i64 ((2 : Int) * n) != (0 : Int))
def ab (x : Int) : Int := max x (0 - x)
def qat (n i x : Int) : Int := (2 * cl n i * ab x + n) / (2 * n)
def atc (n i x : Int) : Int := bif decide (x < 0) then 0 - qat n i x else qat n i x
def atv (a b c d i x : Int) : Int := bif dval a b c d then atc (dom a b c d) i x else 0
def pul (a b c d i x : Int) : Int := bif decide (1 ≤ i) && decide (i ≤ dom a b c d) then atv a b c d i x - atv a b c d (i - 1) x else 0
theorem wd {x : Int} (h : -9223372036854775808 ≤ x ∧ x ≤ 9223372036854775807) : IntKind.wrap IntKind.i64 x = x := IntWalk.i64_in _ h
theorem dz_t {n : Int} (h : 1 ≤ n) (h2 : n ≤ 16777216) : dz n = true := by
  unfold dz
  rw [wd (by omega)]
  simp; omega
theorem qat_bd {n i x : Int} (h : 1 ≤ n) (h2 : n ≤ 16777216) (hx : ab x ≤ n) : 0 ≤ qat n i x ∧ qat n i x ≤ ab x ∧ 0 ≤ ab x ∧ 0 ≤ cl n i ∧ cl n i ≤ n := by
  have h0 : 0 ≤ ab x := by unfold ab; omega
  have hc : 0 ≤ cl n i ∧ cl n i ≤ n := by unfold cl; omega
  unfold qat
  have m1 := mul_box hc ⟨h0, Int.le_refl _⟩
  have e : 2 * cl n i * ab x = 2 * (cl n i * ab x) := by grind
  have e2 : ab x * (2 * n) = 2 * (n * ab x) := by grind
  refine ⟨Int.ediv_nonneg (by omega) (by omega), ?_, h0, hc⟩
  refine Int.lt_add_one_iff.1 (Int.ediv_lt_of_lt_mul (by omega) ?_)
  have : (ab x + 1) * (2 * n) = ab x * (2 * n) + 2 * n := by grind
  omega
theorem rawq_eq {n i x : Int} (h : 1 ≤ n) (h2 : n ≤ 16777216) (hx : ab x ≤ n) : rawq n i x = qat n i x ∧ IntKind.wrap IntKind.i64 (0 - qat n i x) = 0 - qat n i x := by
  have Q := qat_bd (i := i) h h2 hx
  refine ⟨?_, wd (by omega)⟩
  have hj : (if (if n < i then n else i) > (0 : Int) then if n < i then n else i else (0 : Int)) = cl n i := by unfold cl; split <;> split <;> omega
  have hw : IntKind.wrap IntKind.i64 ((0 : Int) - x) = 0 - x := wd (by unfold ab at hx; omega)
  have ha : (if (0 : Int) - x > x then (0 : Int) - x else x) = ab x := by unfold ab; split <;> omega
  unfold rawq
  unfold qat at Q ⊢
  rw [hj, hw, ha]
  generalize cl n i = j at *
  generalize ab x = y at *
  have m1 := mul_box (x := j) (y := y) (X := 16777216) (Y := 16777216) ⟨by omega, by omega⟩ ⟨by omega, by omega⟩
  have e : 2 * j * y = 2 * (j * y) := by grind
  rw [wd (x := 2 * j) (by omega), wd (x := 2 * j * y) (by omega), wd (x := 2 * j * y + n) (by omega), wd (x := 2 * n) (by omega), Int.tdiv_eq_ediv_of_nonneg (by omega)]
  exact wd (by omega)
theorem dv_ab {a b c d : Int} (hv : dval a b c d = true) : 1 ≤ dom a b c d ∧ dom a b c d ≤ 16777216 ∧ ab a ≤ dom a b c d ∧ ab b ≤ dom a b c d ∧ ab c ≤ dom a b c d ∧ ab d ≤ dom a b c d ∧ (dom a b c d = ab a ∨ dom a b c d = ab b ∨ dom a b c d = ab c ∨ dom a b c d = ab d) := by
  have D := dom_in a b c d
  have := D.2.2 hv
  have E := dom_spec hv
  unfold ab
  omega
theorem dom0 (a b c d : Int) : (dom a b c d == (0 : Int)) = !dval a b c d := by
  cases hv : dval a b c d
  · have : dom a b c d = 0 := by unfold dom; rw [if_neg (by simp [hv])]
    rw [this]; rfl
  · have := (dv_ab hv).1
    rw [Bool.not_true, beq_eq_false_iff_ne]; omega
set_option maxRecDepth 100000 in
theorem pat_tree (a : Int) (b : Int) (c : Int) (d : Int) (i : Int) : evalF Try.prog puA_S62 (opens []) L0 9 32 [.ag [.v false (.int .i64 a), .v false (.int .i64 b), .v false (.int .i64 c), .v false (.int .i64 d)], .one (.v false (.int .i64 i))] = .br ((bif !dval a b c d then true else ((dz (dom a b c d)) && (bif decide (a < (0 : Int)) then ((dz (dom a b c d)) && (bif decide (b < (0 : Int)) then ((dz (dom a b c d)) && (bif decide (c < (0 : Int)) then (dz (dom a b c d)) else (dz (dom a b c d)))) else ((dz (dom a b c d)) && (bif decide (c < (0 : Int)) then (dz (dom a b c d)) else (dz (dom a b c d)))))) else ((dz (dom a b c d)) && (bif decide (b < (0 : Int)) then ((dz (dom a b c d)) && (bif decide (c < (0 : Int)) then (dz (dom a b c d)) else (dz (dom a b c d)))) else ((dz (dom a b c d)) && (bif decide (c < (0 : Int)) then (dz (dom a b c d)) else (dz (dom a b c d)))))))))) (.ret (.ag [.v false (.int .i64 (bif !dval a b c d then (0 : Int) else bif decide (a < (0 : Int)) then bif decide (b < (0 : Int)) then bif decide (c < (0 : Int)) then bif decide (d < (0 : Int)) then IntKind.wrap IntKind.i64 ((0 : Int) - (rawq (dom a b c d) i a)) else IntKind.wrap IntKind.i64 ((0 : Int) - (rawq (dom a b c d) i a)) else bif decide (d < (0 : Int)) then IntKind.wrap IntKind.i64 ((0 : Int) - (rawq (dom a b c d) i a)) else IntKind.wrap IntKind.i64 ((0 : Int) - (rawq (dom a b c d) i a)) else bif decide (c < (0 : Int)) then bif decide (d < (0 : Int)) then IntKind.wrap IntKind.i64 ((0 : Int) - (rawq (dom a b c d) i a)) else IntKind.wrap IntKind.i64 ((0 : Int) - (rawq (dom a b c d) i a)) else bif decide (d < (0 : Int)) then IntKind.wrap IntKind.i64 ((0 : Int) - (rawq (dom a b c d) i a)) else IntKind.wrap IntKind.i64 ((0 : Int) - (rawq (dom a b c d) i a)) else bif decide (b < (0 : Int)) then bif decide (c < (0 : Int)) then bif decide (d < (0 : Int)) then (rawq (dom a b c d) i a) else (rawq (dom a b c d) i a) else bif decide (d < (0 : Int)) then (rawq (dom a b c d) i a) else (rawq (dom a b c d) i a) else bif decide (c < (0 : Int)) then bif decide (d < (0 : Int)) then (rawq (dom a b c d) i a) else (rawq (dom a b c d) i a) else bif decide (d < (0 : Int)) then (rawq (dom a b c d) i a) else (rawq (dom a b c d) i a))), .v false (.int .i64 (bif !dval a b c d then (0 : Int) else bif decide (a < (0 : Int)) then bif decide (b < (0 : Int)) then bif decide (c < (0 : Int)) then bif decide (d < (0 : Int)) then IntKind.wrap IntKind.i64 ((0 : Int) - (rawq (dom a b c d) i b)) else IntKind.wrap IntKind.i64 ((0 : Int) - (rawq (dom a b c d) i b)) else bif decide (d < (0 : Int)) then IntKind.wrap IntKind.i64 ((0 : Int) - (rawq (dom a b c d) i b)) else IntKind.wrap IntKind.i64 ((0 : Int) - (rawq (dom a b c d) i b)) else bif decide (c < (0 : Int)) then bif decide (d < (0 : Int)) then (rawq (dom a b c d) i b) else (rawq (dom a b c d) i b) else bif decide (d < (0 : Int)) then (rawq (dom a b c d) i b) else (rawq (dom a b c d) i b) else bif decide (b < (0 : Int)) then bif decide (c < (0 : Int)) then bif decide (d < (0 : Int)) then IntKind.wrap IntKind.i64 ((0 : Int) - (rawq (dom a b c d) i b)) else IntKind.wrap IntKind.i64 ((0 : Int) - (rawq (dom a b c d) i b)) else bif decide (d < (0 : Int)) then IntKind.wrap IntKind.i64 ((0 : Int) - (rawq (dom a b c d) i b)) else IntKind.wrap IntKind.i64 ((0 : Int) - (rawq (dom a b c d) i b)) else bif decide (c < (0 : Int)) then bif decide (d < (0 : Int)) then (rawq (dom a b c d) i b) else (rawq (dom a b c d) i b) else bif decide (d < (0 : Int)) then (rawq (dom a b c d) i b) else (rawq (dom a b c d) i b))), .v false (.int .i64 (bif !dval a b c d then (0 : Int) else bif decide (a < (0 : Int)) then bif decide (b < (0 : Int)) then bif decide (c < (0 : Int)) then bif decide (d < (0 : Int)) then IntKind.wrap IntKind.i64 ((0 : Int) - (rawq (dom a b c d) i c)) else IntKind.wrap IntKind.i64 ((0 : Int) - (rawq (dom a b c d) i c)) else bif decide (d < (0 : Int)) then (rawq (dom a b c d) i c) else (rawq (dom a b c d) i c) else bif decide (c < (0 : Int)) then bif decide (d < (0 : Int)) then IntKind.wrap IntKind.i64 ((0 : Int) - (rawq (dom a b c d) i c)) else IntKind.wrap IntKind.i64 ((0 : Int) - (rawq (dom a b c d) i c)) else bif decide (d < (0 : Int)) then (rawq (dom a b c d) i c) else (rawq (dom a b c d) i c) else bif decide (b < (0 : Int)) then bif decide (c < (0 : Int)) then bif decide (d < (0 : Int)) then IntKind.wrap IntKind.i64 ((0 : Int) - (rawq (dom a b c d) i c)) else IntKind.wrap IntKind.i64 ((0 : Int) - (rawq (dom a b c d) i c)) else bif decide (d < (0 : Int)) then (rawq (dom a b c d) i c) else (rawq (dom a b c d) i c) else bif decide (c < (0 : Int)) then bif decide (d < (0 : Int)) then IntKind.wrap IntKind.i64 ((0 : Int) - (rawq (dom a b c d) i c)) else IntKind.wrap IntKind.i64 ((0 : Int) - (rawq (dom a b c d) i c)) else bif decide (d < (0 : Int)) then (rawq (dom a b c d) i c) else (rawq (dom a b c d) i c))), .v false (.int .i64 (bif !dval a b c d then (0 : Int) else bif decide (a < (0 : Int)) then bif decide (b < (0 : Int)) then bif decide (c < (0 : Int)) then bif decide (d < (0 : Int)) then IntKind.wrap IntKind.i64 ((0 : Int) - (rawq (dom a b c d) i d)) else (rawq (dom a b c d) i d) else bif decide (d < (0 : Int)) then IntKind.wrap IntKind.i64 ((0 : Int) - (rawq (dom a b c d) i d)) else (rawq (dom a b c d) i d) else bif decide (c < (0 : Int)) then bif decide (d < (0 : Int)) then IntKind.wrap IntKind.i64 ((0 : Int) - (rawq (dom a b c d) i d)) else (rawq (dom a b c d) i d) else bif decide (d < (0 : Int)) then IntKind.wrap IntKind.i64 ((0 : Int) - (rawq (dom a b c d) i d)) else (rawq (dom a b c d) i d) else bif decide (b < (0 : Int)) then bif decide (c < (0 : Int)) then bif decide (d < (0 : Int)) then IntKind.wrap IntKind.i64 ((0 : Int) - (rawq (dom a b c d) i d)) else (rawq (dom a b c d) i d) else bif decide (d < (0 : Int)) then IntKind.wrap IntKind.i64 ((0 : Int) - (rawq (dom a b c d) i d)) else (rawq (dom a b c d) i d) else bif decide (c < (0 : Int)) then bif decide (d < (0 : Int)) then IntKind.wrap IntKind.i64 ((0 : Int) - (rawq (dom a b c d) i d)) else (rawq (dom a b c d) i d) else bif decide (d < (0 : Int)) then IntKind.wrap IntKind.i64 ((0 : Int) - (rawq (dom a b c d) i d)) else (rawq (dom a b c d) i d)))])) (.bad 116) := by kernel_rfl
set_option maxHeartbeats 4000000 in
theorem pat_val (a : Int) (b : Int) (c : Int) (d : Int) (i : Int) : (.br ((bif !dval a b c d then true else ((dz (dom a b c d)) && (bif decide (a < (0 : Int)) then ((dz (dom a b c d)) && (bif decide (b < (0 : Int)) then ((dz (dom a b c d)) && (bif decide (c < (0 : Int)) then (dz (dom a b c d)) else (dz (dom a b c d)))) else ((dz (dom a b c d)) && (bif decide (c < (0 : Int)) then (dz (dom a b c d)) else (dz (dom a b c d)))))) else ((dz (dom a b c d)) && (bif decide (b < (0 : Int)) then ((dz (dom a b c d)) && (bif decide (c < (0 : Int)) then (dz (dom a b c d)) else (dz (dom a b c d)))) else ((dz (dom a b c d)) && (bif decide (c < (0 : Int)) then (dz (dom a b c d)) else (dz (dom a b c d)))))))))) (.ret (.ag [.v false (.int .i64 (bif !dval a b c d then (0 : Int) else bif decide (a < (0 : Int)) then bif decide (b < (0 : Int)) then bif decide (c < (0 : Int)) then bif decide (d < (0 : Int)) then IntKind.wrap IntKind.i64 ((0 : Int) - (rawq (dom a b c d) i a)) else IntKind.wrap IntKind.i64 ((0 : Int) - (rawq (dom a b c d) i a)) else bif decide (d < (0 : Int)) then IntKind.wrap IntKind.i64 ((0 : Int) - (rawq (dom a b c d) i a)) else IntKind.wrap IntKind.i64 ((0 : Int) - (rawq (dom a b c d) i a)) else bif decide (c < (0 : Int)) then bif decide (d < (0 : Int)) then IntKind.wrap IntKind.i64 ((0 : Int) - (rawq (dom a b c d) i a)) else IntKind.wrap IntKind.i64 ((0 : Int) - (rawq (dom a b c d) i a)) else bif decide (d < (0 : Int)) then IntKind.wrap IntKind.i64 ((0 : Int) - (rawq (dom a b c d) i a)) else IntKind.wrap IntKind.i64 ((0 : Int) - (rawq (dom a b c d) i a)) else bif decide (b < (0 : Int)) then bif decide (c < (0 : Int)) then bif decide (d < (0 : Int)) then (rawq (dom a b c d) i a) else (rawq (dom a b c d) i a) else bif decide (d < (0 : Int)) then (rawq (dom a b c d) i a) else (rawq (dom a b c d) i a) else bif decide (c < (0 : Int)) then bif decide (d < (0 : Int)) then (rawq (dom a b c d) i a) else (rawq (dom a b c d) i a) else bif decide (d < (0 : Int)) then (rawq (dom a b c d) i a) else (rawq (dom a b c d) i a))), .v false (.int .i64 (bif !dval a b c d then (0 : Int) else bif decide (a < (0 : Int)) then bif decide (b < (0 : Int)) then bif decide (c < (0 : Int)) then bif decide (d < (0 : Int)) then IntKind.wrap IntKind.i64 ((0 : Int) - (rawq (dom a b c d) i b)) else IntKind.wrap IntKind.i64 ((0 : Int) - (rawq (dom a b c d) i b)) else bif decide (d < (0 : Int)) then IntKind.wrap IntKind.i64 ((0 : Int) - (rawq (dom a b c d) i b)) else IntKind.wrap IntKind.i64 ((0 : Int) - (rawq (dom a b c d) i b)) else bif decide (c < (0 : Int)) then bif decide (d < (0 : Int)) then (rawq (dom a b c d) i b) else (rawq (dom a b c d) i b) else bif decide (d < (0 : Int)) then (rawq (dom a b c d) i b) else (rawq (dom a b c d) i b) else bif decide (b < (0 : Int)) then bif decide (c < (0 : Int)) then bif decide (d < (0 : Int)) then IntKind.wrap IntKind.i64 ((0 : Int) - (rawq (dom a b c d) i b)) else IntKind.wrap IntKind.i64 ((0 : Int) - (rawq (dom a b c d) i b)) else bif decide (d < (0 : Int)) then IntKind.wrap IntKind.i64 ((0 : Int) - (rawq (dom a b c d) i b)) else IntKind.wrap IntKind.i64 ((0 : Int) - (rawq (dom a b c d) i b)) else bif decide (c < (0 : Int)) then bif decide (d < (0 : Int)) then (rawq (dom a b c d) i b) else (rawq (dom a b c d) i b) else bif decide (d < (0 : Int)) then (rawq (dom a b c d) i b) else (rawq (dom a b c d) i b))), .v false (.int .i64 (bif !dval a b c d then (0 : Int) else bif decide (a < (0 : Int)) then bif decide (b < (0 : Int)) then bif decide (c < (0 : Int)) then bif decide (d < (0 : Int)) then IntKind.wrap IntKind.i64 ((0 : Int) - (rawq (dom a b c d) i c)) else IntKind.wrap IntKind.i64 ((0 : Int) - (rawq (dom a b c d) i c)) else bif decide (d < (0 : Int)) then (rawq (dom a b c d) i c) else (rawq (dom a b c d) i c) else bif decide (c < (0 : Int)) then bif decide (d < (0 : Int)) then IntKind.wrap IntKind.i64 ((0 : Int) - (rawq (dom a b c d) i c)) else IntKind.wrap IntKind.i64 ((0 : Int) - (rawq (dom a b c d) i c)) else bif decide (d < (0 : Int)) then (rawq (dom a b c d) i c) else (rawq (dom a b c d) i c) else bif decide (b < (0 : Int)) then bif decide (c < (0 : Int)) then bif decide (d < (0 : Int)) then IntKind.wrap IntKind.i64 ((0 : Int) - (rawq (dom a b c d) i c)) else IntKind.wrap IntKind.i64 ((0 : Int) - (rawq (dom a b c d) i c)) else bif decide (d < (0 : Int)) then (rawq (dom a b c d) i c) else (rawq (dom a b c d) i c) else bif decide (c < (0 : Int)) then bif decide (d < (0 : Int)) then IntKind.wrap IntKind.i64 ((0 : Int) - (rawq (dom a b c d) i c)) else IntKind.wrap IntKind.i64 ((0 : Int) - (rawq (dom a b c d) i c)) else bif decide (d < (0 : Int)) then (rawq (dom a b c d) i c) else (rawq (dom a b c d) i c))), .v false (.int .i64 (bif !dval a b c d then (0 : Int) else bif decide (a < (0 : Int)) then bif decide (b < (0 : Int)) then bif decide (c < (0 : Int)) then bif decide (d < (0 : Int)) then IntKind.wrap IntKind.i64 ((0 : Int) - (rawq (dom a b c d) i d)) else (rawq (dom a b c d) i d) else bif decide (d < (0 : Int)) then IntKind.wrap IntKind.i64 ((0 : Int) - (rawq (dom a b c d) i d)) else (rawq (dom a b c d) i d) else bif decide (c < (0 : Int)) then bif decide (d < (0 : Int)) then IntKind.wrap IntKind.i64 ((0 : Int) - (rawq (dom a b c d) i d)) else (rawq (dom a b c d) i d) else bif decide (d < (0 : Int)) then IntKind.wrap IntKind.i64 ((0 : Int) - (rawq (dom a b c d) i d)) else (rawq (dom a b c d) i d) else bif decide (b < (0 : Int)) then bif decide (c < (0 : Int)) then bif decide (d < (0 : Int)) then IntKind.wrap IntKind.i64 ((0 : Int) - (rawq (dom a b c d) i d)) else (rawq (dom a b c d) i d) else bif decide (d < (0 : Int)) then IntKind.wrap IntKind.i64 ((0 : Int) - (rawq (dom a b c d) i d)) else (rawq (dom a b c d) i d) else bif decide (c < (0 : Int)) then bif decide (d < (0 : Int)) then IntKind.wrap IntKind.i64 ((0 : Int) - (rawq (dom a b c d) i d)) else (rawq (dom a b c d) i d) else bif decide (d < (0 : Int)) then IntKind.wrap IntKind.i64 ((0 : Int) - (rawq (dom a b c d) i d)) else (rawq (dom a b c d) i d)))])) (.bad 116) : Tr AV).val = some (.ag [.v false (.int .i64 (atv a b c d i a)), .v false (.int .i64 (atv a b c d i b)), .v false (.int .i64 (atv a b c d i c)), .v false (.int .i64 (atv a b c d i d))]) := by
  show cond _ _ _ = _
  cases hv : dval a b c d
  · simp only [dom0, atv, hv, Bool.not_false, cond_true, cond_false, Tr.val]
  · obtain ⟨n1, n2, xa, xb, xc, xd, _⟩ := dv_ab hv
    obtain ⟨a1, a2⟩ := rawq_eq (i := i) n1 n2 xa
    obtain ⟨b1, b2⟩ := rawq_eq (i := i) n1 n2 xb
    obtain ⟨c1, c2⟩ := rawq_eq (i := i) n1 n2 xc
    obtain ⟨d1, d2⟩ := rawq_eq (i := i) n1 n2 xd
    simp only [dom0, atv, atc, hv, dz_t n1 n2, a1, a2, b1, b2, c1, c2, d1, d2, Bool.cond_self, Bool.true_and, Bool.and_self, Bool.not_true, cond_true, cond_false, Tr.val]
noncomputable def pat_g : List AV → Option (Tr AV)
  | [.ag [.v _ (.int .i64 a), .v _ (.int .i64 b), .v _ (.int .i64 c), .v _ (.int .i64 d)], .one (.v _ (.int .i64 i))] => some (.ret (.ag [.v false (.int .i64 (atv a b c d i a)), .v false (.int .i64 (atv a b c d i b)), .v false (.int .i64 (atv a b c d i c)), .v false (.int .i64 (atv a b c d i d))]))
  | _ => none
set_option maxHeartbeats 4000000 in
theorem pat_ok : FunOK Try.prog 32 pat_g := by
  refine fun_ok (by kernel_rfl) (puA_S62_ok) (L0_ok _) 9 (On := (opens [])) (fun args t h => ?_)
  unfold pat_g at h
  split at h
  · rename_i _ a _ b _ c _ d _ i
    simp only [Option.some.injEq] at h
    subst h
    refine ⟨[.ag [.v false (.int .i64 a), .v false (.int .i64 b), .v false (.int .i64 c), .v false (.int .i64 d)], .one (.v false (.int .i64 i))], rfl, fun fr w us h => h, fun r hr => ?_⟩
    simp only [Tr.val, Option.some.injEq] at hr
    subst hr
    rw [pat_tree]
    exact pat_val a b c d i
  · cases h
noncomputable def puB_S51 : Sums := addS 32 pat_g puA_S62
theorem puB_S51_ok : SumOK Try.prog puB_S51 := addS_ok (pat_ok) (puA_S62_ok)
set_option maxRecDepth 100000 in
theorem rat_tree (a : Int) (b : Int) (c : Int) (d : Int) (i : Int) : evalF Try.prog puB_S51 (opens []) L0 9 33 [.ag [.v false (.int .i64 a), .v false (.int .i64 b), .v false (.int .i64 c), .v false (.int .i64 d)], .one (.v false (.int .i64 i))] = .br ((bif dom a b c d == (0 : Int) then true else ((dz (dom a b c d)) && (bif decide (a < (0 : Int)) then ((dz (dom a b c d)) && (bif decide (b < (0 : Int)) then ((dz (dom a b c d)) && (bif decide (c < (0 : Int)) then (dz (dom a b c d)) else (dz (dom a b c d)))) else ((dz (dom a b c d)) && (bif decide (c < (0 : Int)) then (dz (dom a b c d)) else (dz (dom a b c d)))))) else ((dz (dom a b c d)) && (bif decide (b < (0 : Int)) then ((dz (dom a b c d)) && (bif decide (c < (0 : Int)) then (dz (dom a b c d)) else (dz (dom a b c d)))) else ((dz (dom a b c d)) && (bif decide (c < (0 : Int)) then (dz (dom a b c d)) else (dz (dom a b c d)))))))))) (.ret (.ag [.v false (.int .i64 (bif dom a b c d == (0 : Int) then (0 : Int) else bif decide (a < (0 : Int)) then bif decide (b < (0 : Int)) then bif decide (c < (0 : Int)) then bif decide (d < (0 : Int)) then IntKind.wrap IntKind.i64 ((0 : Int) - (rawq (dom a b c d) i a)) else IntKind.wrap IntKind.i64 ((0 : Int) - (rawq (dom a b c d) i a)) else bif decide (d < (0 : Int)) then IntKind.wrap IntKind.i64 ((0 : Int) - (rawq (dom a b c d) i a)) else IntKind.wrap IntKind.i64 ((0 : Int) - (rawq (dom a b c d) i a)) else bif decide (c < (0 : Int)) then bif decide (d < (0 : Int)) then IntKind.wrap IntKind.i64 ((0 : Int) - (rawq (dom a b c d) i a)) else IntKind.wrap IntKind.i64 ((0 : Int) - (rawq (dom a b c d) i a)) else bif decide (d < (0 : Int)) then IntKind.wrap IntKind.i64 ((0 : Int) - (rawq (dom a b c d) i a)) else IntKind.wrap IntKind.i64 ((0 : Int) - (rawq (dom a b c d) i a)) else bif decide (b < (0 : Int)) then bif decide (c < (0 : Int)) then bif decide (d < (0 : Int)) then (rawq (dom a b c d) i a) else (rawq (dom a b c d) i a) else bif decide (d < (0 : Int)) then (rawq (dom a b c d) i a) else (rawq (dom a b c d) i a) else bif decide (c < (0 : Int)) then bif decide (d < (0 : Int)) then (rawq (dom a b c d) i a) else (rawq (dom a b c d) i a) else bif decide (d < (0 : Int)) then (rawq (dom a b c d) i a) else (rawq (dom a b c d) i a))), .v false (.int .i64 (bif dom a b c d == (0 : Int) then (0 : Int) else bif decide (a < (0 : Int)) then bif decide (b < (0 : Int)) then bif decide (c < (0 : Int)) then bif decide (d < (0 : Int)) then IntKind.wrap IntKind.i64 ((0 : Int) - (rawq (dom a b c d) i b)) else IntKind.wrap IntKind.i64 ((0 : Int) - (rawq (dom a b c d) i b)) else bif decide (d < (0 : Int)) then IntKind.wrap IntKind.i64 ((0 : Int) - (rawq (dom a b c d) i b)) else IntKind.wrap IntKind.i64 ((0 : Int) - (rawq (dom a b c d) i b)) else bif decide (c < (0 : Int)) then bif decide (d < (0 : Int)) then (rawq (dom a b c d) i b) else (rawq (dom a b c d) i b) else bif decide (d < (0 : Int)) then (rawq (dom a b c d) i b) else (rawq (dom a b c d) i b) else bif decide (b < (0 : Int)) then bif decide (c < (0 : Int)) then bif decide (d < (0 : Int)) then IntKind.wrap IntKind.i64 ((0 : Int) - (rawq (dom a b c d) i b)) else IntKind.wrap IntKind.i64 ((0 : Int) - (rawq (dom a b c d) i b)) else bif decide (d < (0 : Int)) then IntKind.wrap IntKind.i64 ((0 : Int) - (rawq (dom a b c d) i b)) else IntKind.wrap IntKind.i64 ((0 : Int) - (rawq (dom a b c d) i b)) else bif decide (c < (0 : Int)) then bif decide (d < (0 : Int)) then (rawq (dom a b c d) i b) else (rawq (dom a b c d) i b) else bif decide (d < (0 : Int)) then (rawq (dom a b c d) i b) else (rawq (dom a b c d) i b))), .v false (.int .i64 (bif dom a b c d == (0 : Int) then (0 : Int) else bif decide (a < (0 : Int)) then bif decide (b < (0 : Int)) then bif decide (c < (0 : Int)) then bif decide (d < (0 : Int)) then IntKind.wrap IntKind.i64 ((0 : Int) - (rawq (dom a b c d) i c)) else IntKind.wrap IntKind.i64 ((0 : Int) - (rawq (dom a b c d) i c)) else bif decide (d < (0 : Int)) then (rawq (dom a b c d) i c) else (rawq (dom a b c d) i c) else bif decide (c < (0 : Int)) then bif decide (d < (0 : Int)) then IntKind.wrap IntKind.i64 ((0 : Int) - (rawq (dom a b c d) i c)) else IntKind.wrap IntKind.i64 ((0 : Int) - (rawq (dom a b c d) i c)) else bif decide (d < (0 : Int)) then (rawq (dom a b c d) i c) else (rawq (dom a b c d) i c) else bif decide (b < (0 : Int)) then bif decide (c < (0 : Int)) then bif decide (d < (0 : Int)) then IntKind.wrap IntKind.i64 ((0 : Int) - (rawq (dom a b c d) i c)) else IntKind.wrap IntKind.i64 ((0 : Int) - (rawq (dom a b c d) i c)) else bif decide (d < (0 : Int)) then (rawq (dom a b c d) i c) else (rawq (dom a b c d) i c) else bif decide (c < (0 : Int)) then bif decide (d < (0 : Int)) then IntKind.wrap IntKind.i64 ((0 : Int) - (rawq (dom a b c d) i c)) else IntKind.wrap IntKind.i64 ((0 : Int) - (rawq (dom a b c d) i c)) else bif decide (d < (0 : Int)) then (rawq (dom a b c d) i c) else (rawq (dom a b c d) i c))), .v false (.int .i64 (bif dom a b c d == (0 : Int) then (0 : Int) else bif decide (a < (0 : Int)) then bif decide (b < (0 : Int)) then bif decide (c < (0 : Int)) then bif decide (d < (0 : Int)) then IntKind.wrap IntKind.i64 ((0 : Int) - (rawq (dom a b c d) i d)) else (rawq (dom a b c d) i d) else bif decide (d < (0 : Int)) then IntKind.wrap IntKind.i64 ((0 : Int) - (rawq (dom a b c d) i d)) else (rawq (dom a b c d) i d) else bif decide (c < (0 : Int)) then bif decide (d < (0 : Int)) then IntKind.wrap IntKind.i64 ((0 : Int) - (rawq (dom a b c d) i d)) else (rawq (dom a b c d) i d) else bif decide (d < (0 : Int)) then IntKind.wrap IntKind.i64 ((0 : Int) - (rawq (dom a b c d) i d)) else (rawq (dom a b c d) i d) else bif decide (b < (0 : Int)) then bif decide (c < (0 : Int)) then bif decide (d < (0 : Int)) then IntKind.wrap IntKind.i64 ((0 : Int) - (rawq (dom a b c d) i d)) else (rawq (dom a b c d) i d) else bif decide (d < (0 : Int)) then IntKind.wrap IntKind.i64 ((0 : Int) - (rawq (dom a b c d) i d)) else (rawq (dom a b c d) i d) else bif decide (c < (0 : Int)) then bif decide (d < (0 : Int)) then IntKind.wrap IntKind.i64 ((0 : Int) - (rawq (dom a b c d) i d)) else (rawq (dom a b c d) i d) else bif decide (d < (0 : Int)) then IntKind.wrap IntKind.i64 ((0 : Int) - (rawq (dom a b c d) i d)) else (rawq (dom a b c d) i d)))])) (.bad 116) := by kernel_rfl
set_option maxHeartbeats 4000000 in
theorem rat_val (a : Int) (b : Int) (c : Int) (d : Int) (i : Int) : (.br ((bif dom a b c d == (0 : Int) then true else ((dz (dom a b c d)) && (bif decide (a < (0 : Int)) then ((dz (dom a b c d)) && (bif decide (b < (0 : Int)) then ((dz (dom a b c d)) && (bif decide (c < (0 : Int)) then (dz (dom a b c d)) else (dz (dom a b c d)))) else ((dz (dom a b c d)) && (bif decide (c < (0 : Int)) then (dz (dom a b c d)) else (dz (dom a b c d)))))) else ((dz (dom a b c d)) && (bif decide (b < (0 : Int)) then ((dz (dom a b c d)) && (bif decide (c < (0 : Int)) then (dz (dom a b c d)) else (dz (dom a b c d)))) else ((dz (dom a b c d)) && (bif decide (c < (0 : Int)) then (dz (dom a b c d)) else (dz (dom a b c d)))))))))) (.ret (.ag [.v false (.int .i64 (bif dom a b c d == (0 : Int) then (0 : Int) else bif decide (a < (0 : Int)) then bif decide (b < (0 : Int)) then bif decide (c < (0 : Int)) then bif decide (d < (0 : Int)) then IntKind.wrap IntKind.i64 ((0 : Int) - (rawq (dom a b c d) i a)) else IntKind.wrap IntKind.i64 ((0 : Int) - (rawq (dom a b c d) i a)) else bif decide (d < (0 : Int)) then IntKind.wrap IntKind.i64 ((0 : Int) - (rawq (dom a b c d) i a)) else IntKind.wrap IntKind.i64 ((0 : Int) - (rawq (dom a b c d) i a)) else bif decide (c < (0 : Int)) then bif decide (d < (0 : Int)) then IntKind.wrap IntKind.i64 ((0 : Int) - (rawq (dom a b c d) i a)) else IntKind.wrap IntKind.i64 ((0 : Int) - (rawq (dom a b c d) i a)) else bif decide (d < (0 : Int)) then IntKind.wrap IntKind.i64 ((0 : Int) - (rawq (dom a b c d) i a)) else IntKind.wrap IntKind.i64 ((0 : Int) - (rawq (dom a b c d) i a)) else bif decide (b < (0 : Int)) then bif decide (c < (0 : Int)) then bif decide (d < (0 : Int)) then (rawq (dom a b c d) i a) else (rawq (dom a b c d) i a) else bif decide (d < (0 : Int)) then (rawq (dom a b c d) i a) else (rawq (dom a b c d) i a) else bif decide (c < (0 : Int)) then bif decide (d < (0 : Int)) then (rawq (dom a b c d) i a) else (rawq (dom a b c d) i a) else bif decide (d < (0 : Int)) then (rawq (dom a b c d) i a) else (rawq (dom a b c d) i a))), .v false (.int .i64 (bif dom a b c d == (0 : Int) then (0 : Int) else bif decide (a < (0 : Int)) then bif decide (b < (0 : Int)) then bif decide (c < (0 : Int)) then bif decide (d < (0 : Int)) then IntKind.wrap IntKind.i64 ((0 : Int) - (rawq (dom a b c d) i b)) else IntKind.wrap IntKind.i64 ((0 : Int) - (rawq (dom a b c d) i b)) else bif decide (d < (0 : Int)) then IntKind.wrap IntKind.i64 ((0 : Int) - (rawq (dom a b c d) i b)) else IntKind.wrap IntKind.i64 ((0 : Int) - (rawq (dom a b c d) i b)) else bif decide (c < (0 : Int)) then bif decide (d < (0 : Int)) then (rawq (dom a b c d) i b) else (rawq (dom a b c d) i b) else bif decide (d < (0 : Int)) then (rawq (dom a b c d) i b) else (rawq (dom a b c d) i b) else bif decide (b < (0 : Int)) then bif decide (c < (0 : Int)) then bif decide (d < (0 : Int)) then IntKind.wrap IntKind.i64 ((0 : Int) - (rawq (dom a b c d) i b)) else IntKind.wrap IntKind.i64 ((0 : Int) - (rawq (dom a b c d) i b)) else bif decide (d < (0 : Int)) then IntKind.wrap IntKind.i64 ((0 : Int) - (rawq (dom a b c d) i b)) else IntKind.wrap IntKind.i64 ((0 : Int) - (rawq (dom a b c d) i b)) else bif decide (c < (0 : Int)) then bif decide (d < (0 : Int)) then (rawq (dom a b c d) i b) else (rawq (dom a b c d) i b) else bif decide (d < (0 : Int)) then (rawq (dom a b c d) i b) else (rawq (dom a b c d) i b))), .v false (.int .i64 (bif dom a b c d == (0 : Int) then (0 : Int) else bif decide (a < (0 : Int)) then bif decide (b < (0 : Int)) then bif decide (c < (0 : Int)) then bif decide (d < (0 : Int)) then IntKind.wrap IntKind.i64 ((0 : Int) - (rawq (dom a b c d) i c)) else IntKind.wrap IntKind.i64 ((0 : Int) - (rawq (dom a b c d) i c)) else bif decide (d < (0 : Int)) then (rawq (dom a b c d) i c) else (rawq (dom a b c d) i c) else bif decide (c < (0 : Int)) then bif decide (d < (0 : Int)) then IntKind.wrap IntKind.i64 ((0 : Int) - (rawq (dom a b c d) i c)) else IntKind.wrap IntKind.i64 ((0 : Int) - (rawq (dom a b c d) i c)) else bif decide (d < (0 : Int)) then (rawq (dom a b c d) i c) else (rawq (dom a b c d) i c) else bif decide (b < (0 : Int)) then bif decide (c < (0 : Int)) then bif decide (d < (0 : Int)) then IntKind.wrap IntKind.i64 ((0 : Int) - (rawq (dom a b c d) i c)) else IntKind.wrap IntKind.i64 ((0 : Int) - (rawq (dom a b c d) i c)) else bif decide (d < (0 : Int)) then (rawq (dom a b c d) i c) else (rawq (dom a b c d) i c) else bif decide (c < (0 : Int)) then bif decide (d < (0 : Int)) then IntKind.wrap IntKind.i64 ((0 : Int) - (rawq (dom a b c d) i c)) else IntKind.wrap IntKind.i64 ((0 : Int) - (rawq (dom a b c d) i c)) else bif decide (d < (0 : Int)) then (rawq (dom a b c d) i c) else (rawq (dom a b c d) i c))), .v false (.int .i64 (bif dom a b c d == (0 : Int) then (0 : Int) else bif decide (a < (0 : Int)) then bif decide (b < (0 : Int)) then bif decide (c < (0 : Int)) then bif decide (d < (0 : Int)) then IntKind.wrap IntKind.i64 ((0 : Int) - (rawq (dom a b c d) i d)) else (rawq (dom a b c d) i d) else bif decide (d < (0 : Int)) then IntKind.wrap IntKind.i64 ((0 : Int) - (rawq (dom a b c d) i d)) else (rawq (dom a b c d) i d) else bif decide (c < (0 : Int)) then bif decide (d < (0 : Int)) then IntKind.wrap IntKind.i64 ((0 : Int) - (rawq (dom a b c d) i d)) else (rawq (dom a b c d) i d) else bif decide (d < (0 : Int)) then IntKind.wrap IntKind.i64 ((0 : Int) - (rawq (dom a b c d) i d)) else (rawq (dom a b c d) i d) else bif decide (b < (0 : Int)) then bif decide (c < (0 : Int)) then bif decide (d < (0 : Int)) then IntKind.wrap IntKind.i64 ((0 : Int) - (rawq (dom a b c d) i d)) else (rawq (dom a b c d) i d) else bif decide (d < (0 : Int)) then IntKind.wrap IntKind.i64 ((0 : Int) - (rawq (dom a b c d) i d)) else (rawq (dom a b c d) i d) else bif decide (c < (0 : Int)) then bif decide (d < (0 : Int)) then IntKind.wrap IntKind.i64 ((0 : Int) - (rawq (dom a b c d) i d)) else (rawq (dom a b c d) i d) else bif decide (d < (0 : Int)) then IntKind.wrap IntKind.i64 ((0 : Int) - (rawq (dom a b c d) i d)) else (rawq (dom a b c d) i d)))])) (.bad 116) : Tr AV).val = some (.ag [.v false (.int .i64 (atv a b c d i a)), .v false (.int .i64 (atv a b c d i b)), .v false (.int .i64 (atv a b c d i c)), .v false (.int .i64 (atv a b c d i d))]) := by
  show cond _ _ _ = _
  cases hv : dval a b c d
  · simp only [dom0, atv, hv, Bool.not_false, cond_true, cond_false, Tr.val]
  · obtain ⟨n1, n2, xa, xb, xc, xd, _⟩ := dv_ab hv
    obtain ⟨a1, a2⟩ := rawq_eq (i := i) n1 n2 xa
    obtain ⟨b1, b2⟩ := rawq_eq (i := i) n1 n2 xb
    obtain ⟨c1, c2⟩ := rawq_eq (i := i) n1 n2 xc
    obtain ⟨d1, d2⟩ := rawq_eq (i := i) n1 n2 xd
    simp only [dom0, atv, atc, hv, dz_t n1 n2, a1, a2, b1, b2, c1, c2, d1, d2, Bool.cond_self, Bool.true_and, Bool.and_self, Bool.not_true, cond_true, cond_false, Tr.val]
noncomputable def rat_g : List AV → Option (Tr AV)
  | [.ag [.v _ (.int .i64 a), .v _ (.int .i64 b), .v _ (.int .i64 c), .v _ (.int .i64 d)], .one (.v _ (.int .i64 i))] => some (.ret (.ag [.v false (.int .i64 (atv a b c d i a)), .v false (.int .i64 (atv a b c d i b)), .v false (.int .i64 (atv a b c d i c)), .v false (.int .i64 (atv a b c d i d))]))
  | _ => none
set_option maxHeartbeats 4000000 in
theorem rat_ok : FunOK Try.prog 33 rat_g := by
  refine fun_ok (by kernel_rfl) (puB_S51_ok) (L0_ok _) 9 (On := (opens [])) (fun args t h => ?_)
  unfold rat_g at h
  split at h
  · rename_i _ a _ b _ c _ d _ i
    simp only [Option.some.injEq] at h
    subst h
    refine ⟨[.ag [.v false (.int .i64 a), .v false (.int .i64 b), .v false (.int .i64 c), .v false (.int .i64 d)], .one (.v false (.int .i64 i))], rfl, fun fr w us h => h, fun r hr => ?_⟩
    simp only [Tr.val, Option.some.injEq] at hr
    subst hr
    rw [rat_tree]
    exact rat_val a b c d i
  · cases h
noncomputable def puB_S52 : Sums := addS 33 rat_g puB_S51
theorem puB_S52_ok : SumOK Try.prog puB_S52 := addS_ok (rat_ok) (puB_S51_ok)
theorem atc_bd {n i x : Int} (h : 1 ≤ n) (h2 : n ≤ 16777216) (hx : ab x ≤ n) : -16777216 ≤ atc n i x ∧ atc n i x ≤ 16777216 := by
  have := qat_bd (i := i) h h2 hx
  unfold atc
  cases decide (x < 0)
  · show _ ≤ qat n i x ∧ qat n i x ≤ _; omega
  · show _ ≤ 0 - qat n i x ∧ 0 - qat n i x ≤ _; omega
theorem pul_raw {a b c d i x : Int} (hx : dval a b c d = true → ab x ≤ dom a b c d) : (bif bif decide (i < (1 : Int)) then true else decide (i > dom a b c d) then (0 : Int) else IntKind.wrap IntKind.i64 (atv a b c d i x - atv a b c d (IntKind.wrap IntKind.i64 (i - (1 : Int))) x)) = pul a b c d i x := by
  have D := dom_in a b c d
  unfold pul
  by_cases h : 1 ≤ i ∧ i ≤ dom a b c d
  · have hv : dval a b c d = true := by
      cases hv : dval a b c d
      · have : dom a b c d = 0 := by unfold dom; rw [if_neg (by simp [hv])]
        omega
      · rfl
    rw [decide_eq_false (show ¬ i < 1 by omega), decide_eq_false (show ¬ i > dom a b c d by omega), decide_eq_true h.1, decide_eq_true h.2, wd (x := i - 1) (by omega)]
    simp only [atv, hv, cond_true, cond_false, Bool.and_self]
    have n := dv_ab hv
    have e1 := atc_bd (i := i) n.1 n.2.1 (hx hv)
    have e2 := atc_bd (i := i - 1) n.1 n.2.1 (hx hv)
    exact wd (by omega)
  · have t : (bif decide (i < (1 : Int)) then true else decide (i > dom a b c d)) = true := by simp; omega
    have t2 : (decide (1 ≤ i) && decide (i ≤ dom a b c d)) = false := by
      rw [← Bool.not_eq_true]; simp; omega
    rw [t, t2]; rfl
set_option maxRecDepth 100000 in
theorem ppu_tree (a : Int) (b : Int) (c : Int) (d : Int) (i : Int) : evalF Try.prog puB_S52 (opens []) L0 9 44 [.ag [.v false (.int .i64 a), .v false (.int .i64 b), .v false (.int .i64 c), .v false (.int .i64 d)], .one (.v false (.int .i64 i))] = .ret (.ag [.v false (.int .i64 (bif bif decide (i < (1 : Int)) then true else decide (i > dom a b c d) then (0 : Int) else IntKind.wrap IntKind.i64 (atv a b c d i a - atv a b c d (IntKind.wrap IntKind.i64 (i - (1 : Int))) a))), .v false (.int .i64 (bif bif decide (i < (1 : Int)) then true else decide (i > dom a b c d) then (0 : Int) else IntKind.wrap IntKind.i64 (atv a b c d i b - atv a b c d (IntKind.wrap IntKind.i64 (i - (1 : Int))) b))), .v false (.int .i64 (bif bif decide (i < (1 : Int)) then true else decide (i > dom a b c d) then (0 : Int) else IntKind.wrap IntKind.i64 (atv a b c d i c - atv a b c d (IntKind.wrap IntKind.i64 (i - (1 : Int))) c))), .v false (.int .i64 (bif bif decide (i < (1 : Int)) then true else decide (i > dom a b c d) then (0 : Int) else IntKind.wrap IntKind.i64 (atv a b c d i d - atv a b c d (IntKind.wrap IntKind.i64 (i - (1 : Int))) d)))]) := by kernel_rfl
set_option maxHeartbeats 4000000 in
theorem ppu_val (a : Int) (b : Int) (c : Int) (d : Int) (i : Int) : (.ret (.ag [.v false (.int .i64 (bif bif decide (i < (1 : Int)) then true else decide (i > dom a b c d) then (0 : Int) else IntKind.wrap IntKind.i64 (atv a b c d i a - atv a b c d (IntKind.wrap IntKind.i64 (i - (1 : Int))) a))), .v false (.int .i64 (bif bif decide (i < (1 : Int)) then true else decide (i > dom a b c d) then (0 : Int) else IntKind.wrap IntKind.i64 (atv a b c d i b - atv a b c d (IntKind.wrap IntKind.i64 (i - (1 : Int))) b))), .v false (.int .i64 (bif bif decide (i < (1 : Int)) then true else decide (i > dom a b c d) then (0 : Int) else IntKind.wrap IntKind.i64 (atv a b c d i c - atv a b c d (IntKind.wrap IntKind.i64 (i - (1 : Int))) c))), .v false (.int .i64 (bif bif decide (i < (1 : Int)) then true else decide (i > dom a b c d) then (0 : Int) else IntKind.wrap IntKind.i64 (atv a b c d i d - atv a b c d (IntKind.wrap IntKind.i64 (i - (1 : Int))) d)))]) : Tr AV).val = some (.ag [.v false (.int .i64 (pul a b c d i a)), .v false (.int .i64 (pul a b c d i b)), .v false (.int .i64 (pul a b c d i c)), .v false (.int .i64 (pul a b c d i d))]) := by
  have pa := pul_raw (i := i) (x := a) (fun hv : dval a b c d = true => (dv_ab hv).2.2.1)
  have pb := pul_raw (i := i) (x := b) (fun hv : dval a b c d = true => (dv_ab hv).2.2.2.1)
  have pc := pul_raw (i := i) (x := c) (fun hv : dval a b c d = true => (dv_ab hv).2.2.2.2.1)
  have pd := pul_raw (i := i) (x := d) (fun hv : dval a b c d = true => (dv_ab hv).2.2.2.2.2.1)
  simp only [pa, pb, pc, pd, Tr.val]
noncomputable def ppu_g : List AV → Option (Tr AV)
  | [.ag [.v _ (.int .i64 a), .v _ (.int .i64 b), .v _ (.int .i64 c), .v _ (.int .i64 d)], .one (.v _ (.int .i64 i))] => some (.ret (.ag [.v false (.int .i64 (pul a b c d i a)), .v false (.int .i64 (pul a b c d i b)), .v false (.int .i64 (pul a b c d i c)), .v false (.int .i64 (pul a b c d i d))]))
  | _ => none
set_option maxHeartbeats 4000000 in
theorem ppu_ok : FunOK Try.prog 44 ppu_g := by
  refine fun_ok (by kernel_rfl) (puB_S52_ok) (L0_ok _) 9 (On := (opens [])) (fun args t h => ?_)
  unfold ppu_g at h
  split at h
  · rename_i _ a _ b _ c _ d _ i
    simp only [Option.some.injEq] at h
    subst h
    refine ⟨[.ag [.v false (.int .i64 a), .v false (.int .i64 b), .v false (.int .i64 c), .v false (.int .i64 d)], .one (.v false (.int .i64 i))], rfl, fun fr w us h => h, fun r hr => ?_⟩
    simp only [Tr.val, Option.some.injEq] at hr
    subst hr
    rw [ppu_tree]
    exact ppu_val a b c d i
  · cases h
noncomputable def puB_S53 : Sums := addS 44 ppu_g puB_S52
theorem puB_S53_ok : SumOK Try.prog puB_S53 := addS_ok (ppu_ok) (puB_S52_ok)
set_option maxRecDepth 100000 in
theorem rpu_tree (a : Int) (b : Int) (c : Int) (d : Int) (i : Int) : evalF Try.prog puB_S53 (opens []) L0 9 21 [.ag [.v false (.int .i64 a), .v false (.int .i64 b), .v false (.int .i64 c), .v false (.int .i64 d)], .one (.v false (.int .i64 i))] = .ret (.ag [.v false (.int .i64 (bif bif decide (i < (1 : Int)) then true else decide (i > dom a b c d) then (0 : Int) else IntKind.wrap IntKind.i64 (atv a b c d i a - atv a b c d (IntKind.wrap IntKind.i64 (i - (1 : Int))) a))), .v false (.int .i64 (bif bif decide (i < (1 : Int)) then true else decide (i > dom a b c d) then (0 : Int) else IntKind.wrap IntKind.i64 (atv a b c d i b - atv a b c d (IntKind.wrap IntKind.i64 (i - (1 : Int))) b))), .v false (.int .i64 (bif bif decide (i < (1 : Int)) then true else decide (i > dom a b c d) then (0 : Int) else IntKind.wrap IntKind.i64 (atv a b c d i c - atv a b c d (IntKind.wrap IntKind.i64 (i - (1 : Int))) c))), .v false (.int .i64 (bif bif decide (i < (1 : Int)) then true else decide (i > dom a b c d) then (0 : Int) else IntKind.wrap IntKind.i64 (atv a b c d i d - atv a b c d (IntKind.wrap IntKind.i64 (i - (1 : Int))) d)))]) := by kernel_rfl
set_option maxHeartbeats 4000000 in
theorem rpu_val (a : Int) (b : Int) (c : Int) (d : Int) (i : Int) : (.ret (.ag [.v false (.int .i64 (bif bif decide (i < (1 : Int)) then true else decide (i > dom a b c d) then (0 : Int) else IntKind.wrap IntKind.i64 (atv a b c d i a - atv a b c d (IntKind.wrap IntKind.i64 (i - (1 : Int))) a))), .v false (.int .i64 (bif bif decide (i < (1 : Int)) then true else decide (i > dom a b c d) then (0 : Int) else IntKind.wrap IntKind.i64 (atv a b c d i b - atv a b c d (IntKind.wrap IntKind.i64 (i - (1 : Int))) b))), .v false (.int .i64 (bif bif decide (i < (1 : Int)) then true else decide (i > dom a b c d) then (0 : Int) else IntKind.wrap IntKind.i64 (atv a b c d i c - atv a b c d (IntKind.wrap IntKind.i64 (i - (1 : Int))) c))), .v false (.int .i64 (bif bif decide (i < (1 : Int)) then true else decide (i > dom a b c d) then (0 : Int) else IntKind.wrap IntKind.i64 (atv a b c d i d - atv a b c d (IntKind.wrap IntKind.i64 (i - (1 : Int))) d)))]) : Tr AV).val = some (.ag [.v false (.int .i64 (pul a b c d i a)), .v false (.int .i64 (pul a b c d i b)), .v false (.int .i64 (pul a b c d i c)), .v false (.int .i64 (pul a b c d i d))]) := by
  have pa := pul_raw (i := i) (x := a) (fun hv : dval a b c d = true => (dv_ab hv).2.2.1)
  have pb := pul_raw (i := i) (x := b) (fun hv : dval a b c d = true => (dv_ab hv).2.2.2.1)
  have pc := pul_raw (i := i) (x := c) (fun hv : dval a b c d = true => (dv_ab hv).2.2.2.2.1)
  have pd := pul_raw (i := i) (x := d) (fun hv : dval a b c d = true => (dv_ab hv).2.2.2.2.2.1)
  simp only [pa, pb, pc, pd, Tr.val]
noncomputable def rpu_g : List AV → Option (Tr AV)
  | [.ag [.v _ (.int .i64 a), .v _ (.int .i64 b), .v _ (.int .i64 c), .v _ (.int .i64 d)], .one (.v _ (.int .i64 i))] => some (.ret (.ag [.v false (.int .i64 (pul a b c d i a)), .v false (.int .i64 (pul a b c d i b)), .v false (.int .i64 (pul a b c d i c)), .v false (.int .i64 (pul a b c d i d))]))
  | _ => none
set_option maxHeartbeats 4000000 in
theorem rpu_ok : FunOK Try.prog 21 rpu_g := by
  refine fun_ok (by kernel_rfl) (puB_S53_ok) (L0_ok _) 9 (On := (opens [])) (fun args t h => ?_)
  unfold rpu_g at h
  split at h
  · rename_i _ a _ b _ c _ d _ i
    simp only [Option.some.injEq] at h
    subst h
    refine ⟨[.ag [.v false (.int .i64 a), .v false (.int .i64 b), .v false (.int .i64 c), .v false (.int .i64 d)], .one (.v false (.int .i64 i))], rfl, fun fr w us h => h, fun r hr => ?_⟩
    simp only [Tr.val, Option.some.injEq] at hr
    subst hr
    rw [rpu_tree]
    exact rpu_val a b c d i
  · cases h
noncomputable def puB_S54 : Sums := addS 21 rpu_g puB_S53
theorem puB_S54_ok : SumOK Try.prog puB_S54 := addS_ok (rpu_ok) (puB_S53_ok)
end Go.Proofs.Ythhfhiggacdneaa
