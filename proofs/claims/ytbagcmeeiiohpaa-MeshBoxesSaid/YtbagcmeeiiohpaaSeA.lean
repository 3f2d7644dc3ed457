/-
  Layer 15: Point.
-/
import Derived.Test.YtbagcmeeiiohpaaProg
import Derived.Test.YtbagcmeeiiohpaaFvX
import Derived.Test.YtbagcmeeiiohpaaFvZ
import Derived.Test.YtbagcmeeiiohpaaAut
import Derived.Test.YtbagcmeeiiohpaaRd
import Derived.Test.YtbagcmeeiiohpaaPl
namespace Go.Proofs.Ytbagcmeeiiohpaa
open Go
set_option maxRecDepth 100000 in
theorem aw17_tree : evalF Try.prog S0 (opens []) L0 9 17 [] = .ret (.one (.v true (.bool true))) := by kernel_rfl
noncomputable def seA_S52 : Sums := addS 17 gTrue S0
theorem seA_S52_ok : SumOK Try.prog seA_S52 := addS_ok (gTrue_ok (by kernel_rfl) (S0_ok _) (L0_ok _) aw17_tree) (S0_ok _)
theorem ediv_of' {x y q r : Int} (hy : 0 < y) (h : r + y * q = x) (h0 : 0 ≤ r) (h1 : r < y) : x / y = q ∧ x % y = r := (Int.ediv_emod_unique hy).2 ⟨h, h0, h1⟩
theorem half_of {a b q r : Int} (hb : 0 < b) (h : a = b * q + r) (h0 : 0 ≤ r) (h1 : r < b) : (2 * a + b) / (2 * b) = if b ≤ 2 * r then q + 1 else q := by
  split
  · exact (ediv_of' (r := 2 * r - b) (by omega) (by rw [Int.mul_add, Int.mul_assoc]; omega) (by omega) (by omega)).1
  · exact (ediv_of' (r := 2 * r + b) (by omega) (by rw [Int.mul_assoc]; omega) (by omega) (by omega)).1
set_option maxRecDepth 100000 in
theorem dvd_tree (a : Int) (b : Int) : evalF Try.prog seA_S52 (opens []) L0 8 66 [.one (.v false (.int .i64 a)), .one (.v false (.int .i64 b))] = .br ((bif b == (0 : Int) then true else (bif bif a == (-9223372036854775808 : Int) then b == (-1 : Int) else false then true else ((b != (0 : Int)) && (b != (0 : Int)))))) (.ret (.tup [(false, [.v false (.int .i64 (bif b == (0 : Int) then (0 : Int) else bif bif a == (-9223372036854775808 : Int) then b == (-1 : Int) else false then (0 : Int) else bif bif Int.tmod a b != (0 : Int) then !decide (Int.tmod a b < (0 : Int)) == decide (b < (0 : Int)) else false then IntKind.wrap IntKind.i64 (IntKind.wrap IntKind.i64 (Int.tdiv a b) - (1 : Int)) else IntKind.wrap IntKind.i64 (Int.tdiv a b)))]), (false, [.v false (.int .i64 (bif b == (0 : Int) then (0 : Int) else bif bif a == (-9223372036854775808 : Int) then b == (-1 : Int) else false then (0 : Int) else bif bif Int.tmod a b != (0 : Int) then !decide (Int.tmod a b < (0 : Int)) == decide (b < (0 : Int)) else false then IntKind.wrap IntKind.i64 (Int.tmod a b + b) else Int.tmod a b))]), (false, [.v false (.int .i64 (bif b == (0 : Int) then (4 : Int) else bif bif a == (-9223372036854775808 : Int) then b == (-1 : Int) else false then (3 : Int) else bif bif Int.tmod a b != (0 : Int) then !decide (Int.tmod a b < (0 : Int)) == decide (b < (0 : Int)) else false then (0 : Int) else (0 : Int)))])])) (.bad 116) := by kernel_rfl
theorem dvd_val (a : Int) (b : Int) (hc : (decide (-1152921504606846976 ≤ a) && decide (a ≤ 1152921504606846976) && decide (0 < b) && decide (b ≤ 1099511627776)) = true) : (.br ((bif b == (0 : Int) then true else (bif bif a == (-9223372036854775808 : Int) then b == (-1 : Int) else false then true else ((b != (0 : Int)) && (b != (0 : Int)))))) (.ret (.tup [(false, [.v false (.int .i64 (bif b == (0 : Int) then (0 : Int) else bif bif a == (-9223372036854775808 : Int) then b == (-1 : Int) else false then (0 : Int) else bif bif Int.tmod a b != (0 : Int) then !decide (Int.tmod a b < (0 : Int)) == decide (b < (0 : Int)) else false then IntKind.wrap IntKind.i64 (IntKind.wrap IntKind.i64 (Int.tdiv a b) - (1 : Int)) else IntKind.wrap IntKind.i64 (Int.tdiv a b)))]), (false, [.v false (.int .i64 (bif b == (0 : Int) then (0 : Int) else bif bif a == (-9223372036854775808 : Int) then b == (-1 : Int) else false then (0 : Int) else bif bif Int.tmod a b != (0 : Int) then !decide (Int.tmod a b < (0 : Int)) == decide (b < (0 : Int)) else false then IntKind.wrap IntKind.i64 (Int.tmod a b + b) else Int.tmod a b))]), (false, [.v false (.int .i64 (bif b == (0 : Int) then (4 : Int) else bif bif a == (-9223372036854775808 : Int) then b == (-1 : Int) else false then (3 : Int) else bif bif Int.tmod a b != (0 : Int) then !decide (Int.tmod a b < (0 : Int)) == decide (b < (0 : Int)) else false then (0 : Int) else (0 : Int)))])])) (.bad 116) : Tr AV).val = some (.tup [(false, [.v false (.int .i64 (a / b))]), (false, [.v false (.int .i64 (a % b))]), (false, [.v false (.int .i64 0)])]) := by
  simp only [Bool.and_eq_true, decide_eq_true_eq] at hc
  obtain ⟨⟨⟨c1, c2⟩, c3⟩, c4⟩ := hc
  obtain ⟨p1, p2, p3, p4, p5⟩ := tdiv_parts a b (by omega)
  obtain ⟨s1, s2⟩ := tdiv_size a b (by omega) (by omega) (by omega) (by omega)
  have s3 : (a.tdiv b).natAbs ≤ a.natAbs := by rw [Int.natAbs_tdiv]; exact Nat.div_le_self _ _
  obtain ⟨t, ht⟩ : ∃ t, a.tdiv b = t := ⟨_, rfl⟩
  obtain ⟨m, hm⟩ : ∃ m, a.tmod b = m := ⟨_, rfl⟩
  rw [ht] at p1 s1 s2 s3
  rw [hm] at p1 p2 p3 p4 p5
  have e1 : (b == 0) = false := beq_f (by omega)
  have e2 : (a == -9223372036854775808) = false := beq_f (by omega)
  have e3 : (b != 0) = true := by rw [bne, e1]; rfl
  have e4 : decide (b < 0) = false := decide_eq_false (by omega)
  have w1 : IntKind.i64.wrap t = t := IntWalk.i64_in _ ⟨by omega, by omega⟩
  have w2 : IntKind.i64.wrap (t - 1) = t - 1 := IntWalk.i64_in _ ⟨by omega, by omega⟩
  have w3 : IntKind.i64.wrap (m + b) = m + b := IntWalk.i64_in _ ⟨by omega, by omega⟩
  by_cases hm0 : m < 0
  · have e5 : decide (m < 0) = true := decide_eq_true hm0
    have e6 : (m != 0) = true := by simp; omega
    obtain ⟨g1, g2⟩ := ediv_of' (x := a) (y := b) (q := t - 1) (r := m + b) (by omega) (by rw [Int.mul_sub]; omega) (by omega) (by omega)
    rw [g1, g2]
    simp [Tr.val, e1, e2, e3, e4, e5, e6, ht, hm, w1, w2, w3]
  · have e5 : decide (m < 0) = false := decide_eq_false hm0
    obtain ⟨g1, g2⟩ := ediv_of' (x := a) (y := b) (q := t) (r := m) (by omega) (by omega) (by omega) (by omega)
    rw [g1, g2]
    simp [Tr.val, e1, e2, e3, e4, e5, ht, hm, w1, w2, w3]
noncomputable def dvd_g : List AV → Option (Tr AV)
  | [.one (.v _ (.int .i64 a)), .one (.v _ (.int .i64 b))] => some (.br (decide (-1152921504606846976 ≤ a) && decide (a ≤ 1152921504606846976) && decide (0 < b) && decide (b ≤ 1099511627776)) (.ret (.tup [(false, [.v false (.int .i64 (a / b))]), (false, [.v false (.int .i64 (a % b))]), (false, [.v false (.int .i64 0)])])) (.bad 900))
  | _ => none
set_option maxHeartbeats 4000000 in
theorem dvd_ok : FunOK Try.prog 66 dvd_g := by
  refine fun_ok (by kernel_rfl) (seA_S52_ok) (L0_ok _) 8 (On := (opens [])) (fun args t h => ?_)
  unfold dvd_g at h
  split at h
  · rename_i _ a _ b
    simp only [Option.some.injEq] at h
    subst h
    refine ⟨[.one (.v false (.int .i64 a)), .one (.v false (.int .i64 b))], rfl, fun fr w us h => h, fun r hr => ?_⟩
    obtain ⟨hc, hr⟩ := br_bad hr
    simp only [Tr.val, Option.some.injEq] at hr
    subst hr
    rw [dvd_tree]
    exact dvd_val a b hc
  · cases h
noncomputable def seA_S53 : Sums := addS 66 dvd_g seA_S52
theorem seA_S53_ok : SumOK Try.prog seA_S53 := addS_ok (dvd_ok) (seA_S52_ok)
set_option maxRecDepth 100000 in
theorem rnd_tree (a : Int) (b : Int) : evalF Try.prog seA_S53 (opens []) L0 8 60 [.one (.v false (.int .i64 a)), .one (.v false (.int .i64 b))] = .br ((decide ((-1152921504606846976 : Int) ≤ a) && decide (a ≤ (1152921504606846976 : Int)) && decide ((0 : Int) < b) && decide (b ≤ (1099511627776 : Int)))) (.ret (.tup [(false, [.v false (.int .i64 (bif (0 : Int) != (0 : Int) then (0 : Int) else bif bif bif decide (b > (0 : Int)) then decide (a % b ≥ IntKind.wrap IntKind.i64 (b - a % b)) else false then true else bif decide (b < (0 : Int)) then decide (a % b ≤ IntKind.wrap IntKind.i64 (b - a % b)) else false then IntKind.wrap IntKind.i64 (a / b + (1 : Int)) else a / b))]), (false, [.v false (.int .i64 (bif (0 : Int) != (0 : Int) then (0 : Int) else bif bif bif decide (b > (0 : Int)) then decide (a % b ≥ IntKind.wrap IntKind.i64 (b - a % b)) else false then true else bif decide (b < (0 : Int)) then decide (a % b ≤ IntKind.wrap IntKind.i64 (b - a % b)) else false then (0 : Int) else (0 : Int)))])])) (.bad 116) := by kernel_rfl
theorem rnd_val (a : Int) (b : Int) (hc : (decide (-1152921504606846976 ≤ a) && decide (a ≤ 1152921504606846976) && decide (0 < b) && decide (b ≤ 1099511627776)) = true) : (.br ((decide ((-1152921504606846976 : Int) ≤ a) && decide (a ≤ (1152921504606846976 : Int)) && decide ((0 : Int) < b) && decide (b ≤ (1099511627776 : Int)))) (.ret (.tup [(false, [.v false (.int .i64 (bif (0 : Int) != (0 : Int) then (0 : Int) else bif bif bif decide (b > (0 : Int)) then decide (a % b ≥ IntKind.wrap IntKind.i64 (b - a % b)) else false then true else bif decide (b < (0 : Int)) then decide (a % b ≤ IntKind.wrap IntKind.i64 (b - a % b)) else false then IntKind.wrap IntKind.i64 (a / b + (1 : Int)) else a / b))]), (false, [.v false (.int .i64 (bif (0 : Int) != (0 : Int) then (0 : Int) else bif bif bif decide (b > (0 : Int)) then decide (a % b ≥ IntKind.wrap IntKind.i64 (b - a % b)) else false then true else bif decide (b < (0 : Int)) then decide (a % b ≤ IntKind.wrap IntKind.i64 (b - a % b)) else false then (0 : Int) else (0 : Int)))])])) (.bad 116) : Tr AV).val = some (.tup [(false, [.v false (.int .i64 ((2 * a + b) / (2 * b)))]), (false, [.v false (.int .i64 0)])]) := by
  have hc' := hc
  simp only [Bool.and_eq_true, decide_eq_true_eq] at hc
  obtain ⟨⟨⟨c1, c2⟩, c3⟩, c4⟩ := hc
  have q1 : a = b * (a / b) + a % b := (Int.mul_ediv_add_emod a b).symm
  have q2 : 0 ≤ a % b := Int.emod_nonneg _ (by omega)
  have q3 : a % b < b := Int.emod_lt_of_pos _ c3
  have q4 : a / b ≤ 1152921504606846976 := Int.ediv_le_of_le_mul c3 (by omega)
  have q5 : -1152921504606846976 ≤ a / b := Int.le_ediv_of_mul_le c3 (by omega)
  have hh := half_of c3 q1 q2 q3
  obtain ⟨q, hq⟩ : ∃ q, a / b = q := ⟨_, rfl⟩
  obtain ⟨r, hr⟩ : ∃ r, a % b = r := ⟨_, rfl⟩
  rw [hq] at q4 q5
  rw [hr] at q2 q3
  rw [hq, hr] at hh
  have w1 : IntKind.i64.wrap (b - r) = b - r := IntWalk.i64_in _ ⟨by omega, by omega⟩
  have w2 : IntKind.i64.wrap (q + 1) = q + 1 := IntWalk.i64_in _ ⟨by omega, by omega⟩
  have e0 : decide (b > 0) = true := decide_eq_true c3
  have e4 : decide (b < 0) = false := decide_eq_false (by omega)
  rw [hh, hc']
  by_cases h2 : b ≤ 2 * r
  · have e5 : decide (r ≥ b - r) = true := decide_eq_true (by omega)
    rw [if_pos h2]
    simp [Tr.val, e0, e4, hq, hr, w1, w2, e5]
    try omega
  · have e5 : decide (r ≥ b - r) = false := decide_eq_false (by omega)
    rw [if_neg h2]
    simp [Tr.val, e0, e4, hq, hr, w1, w2, e5]
    try omega
noncomputable def rnd_g : List AV → Option (Tr AV)
  | [.one (.v _ (.int .i64 a)), .one (.v _ (.int .i64 b))] => some (.br (decide (-1152921504606846976 ≤ a) && decide (a ≤ 1152921504606846976) && decide (0 < b) && decide (b ≤ 1099511627776)) (.ret (.tup [(false, [.v false (.int .i64 ((2 * a + b) / (2 * b)))]), (false, [.v false (.int .i64 0)])])) (.bad 900))
  | _ => none
set_option maxHeartbeats 4000000 in
theorem rnd_ok : FunOK Try.prog 60 rnd_g := by
  refine fun_ok (by kernel_rfl) (seA_S53_ok) (L0_ok _) 8 (On := (opens [])) (fun args t h => ?_)
  unfold rnd_g at h
  split at h
  · rename_i _ a _ b
    simp only [Option.some.injEq] at h
    subst h
    refine ⟨[.one (.v false (.int .i64 a)), .one (.v false (.int .i64 b))], rfl, fun fr w us h => h, fun r hr => ?_⟩
    obtain ⟨hc, hr⟩ := br_bad hr
    simp only [Tr.val, Option.some.injEq] at hr
    subst hr
    rw [rnd_tree]
    exact rnd_val a b hc
  · cases h
noncomputable def seA_S54 : Sums := addS 60 rnd_g seA_S53
theorem seA_S54_ok : SumOK Try.prog seA_S54 := addS_ok (rnd_ok) (seA_S53_ok)
set_option maxRecDepth 100000 in
theorem rou_tree (a : Int) (b : Int) : evalF Try.prog seA_S54 (opens []) L0 8 54 [.one (.v false (.int .i64 a)), .one (.v false (.int .i64 b))] = .br (((IntKind.wrap IntKind.i64 ((2 : Int) * b) != (0 : Int)) && (IntKind.wrap IntKind.i64 ((2 : Int) * b) != (0 : Int)))) (.ret (.one (.v false (.int .i64 (bif decide (Int.tmod (IntKind.wrap IntKind.i64 (IntKind.wrap IntKind.i64 ((2 : Int) * a) + b)) (IntKind.wrap IntKind.i64 ((2 : Int) * b)) < (0 : Int)) then IntKind.wrap IntKind.i64 (IntKind.wrap IntKind.i64 (Int.tdiv (IntKind.wrap IntKind.i64 (IntKind.wrap IntKind.i64 ((2 : Int) * a) + b)) (IntKind.wrap IntKind.i64 ((2 : Int) * b))) - (1 : Int)) else IntKind.wrap IntKind.i64 (Int.tdiv (IntKind.wrap IntKind.i64 (IntKind.wrap IntKind.i64 ((2 : Int) * a) + b)) (IntKind.wrap IntKind.i64 ((2 : Int) * b)))))))) (.bad 116) := by kernel_rfl
theorem rou_val (a : Int) (b : Int) (hc : (decide (-1152921504606846976 ≤ a) && decide (a ≤ 1152921504606846976) && decide (0 < b) && decide (b ≤ 1099511627776)) = true) : (.br (((IntKind.wrap IntKind.i64 ((2 : Int) * b) != (0 : Int)) && (IntKind.wrap IntKind.i64 ((2 : Int) * b) != (0 : Int)))) (.ret (.one (.v false (.int .i64 (bif decide (Int.tmod (IntKind.wrap IntKind.i64 (IntKind.wrap IntKind.i64 ((2 : Int) * a) + b)) (IntKind.wrap IntKind.i64 ((2 : Int) * b)) < (0 : Int)) then IntKind.wrap IntKind.i64 (IntKind.wrap IntKind.i64 (Int.tdiv (IntKind.wrap IntKind.i64 (IntKind.wrap IntKind.i64 ((2 : Int) * a) + b)) (IntKind.wrap IntKind.i64 ((2 : Int) * b))) - (1 : Int)) else IntKind.wrap IntKind.i64 (Int.tdiv (IntKind.wrap IntKind.i64 (IntKind.wrap IntKind.i64 ((2 : Int) * a) + b)) (IntKind.wrap IntKind.i64 ((2 : Int) * b)))))))) (.bad 116) : Tr AV).val = some (.one (.v false (.int .i64 ((2 * a + b) / (2 * b))))) := by
  simp only [Bool.and_eq_true, decide_eq_true_eq] at hc
  obtain ⟨⟨⟨c1, c2⟩, c3⟩, c4⟩ := hc
  have w1 : IntKind.i64.wrap (2 * a) = 2 * a := IntWalk.i64_in _ ⟨by omega, by omega⟩
  have w2 : IntKind.i64.wrap (2 * a + b) = 2 * a + b := IntWalk.i64_in _ ⟨by omega, by omega⟩
  have w3 : IntKind.i64.wrap (2 * b) = 2 * b := IntWalk.i64_in _ ⟨by omega, by omega⟩
  rw [w1, w2, w3]
  obtain ⟨x, hx⟩ : ∃ x, 2 * a + b = x := ⟨_, rfl⟩
  obtain ⟨y, hy⟩ : ∃ y, 2 * b = y := ⟨_, rfl⟩
  rw [hx, hy]
  obtain ⟨p1, p2, p3, p4, p5⟩ := tdiv_parts x y (by omega)
  have s3 : (x.tdiv y).natAbs ≤ x.natAbs := by rw [Int.natAbs_tdiv]; exact Nat.div_le_self _ _
  obtain ⟨t, ht⟩ : ∃ t, x.tdiv y = t := ⟨_, rfl⟩
  obtain ⟨m, hm⟩ : ∃ m, x.tmod y = m := ⟨_, rfl⟩
  rw [ht] at p1 s3
  rw [hm] at p1 p2 p3 p4 p5
  rw [ht, hm]
  have e3 : (y != 0) = true := by simp; omega
  have w4 : IntKind.i64.wrap t = t := IntWalk.i64_in _ ⟨by omega, by omega⟩
  have w5 : IntKind.i64.wrap (t - 1) = t - 1 := IntWalk.i64_in _ ⟨by omega, by omega⟩
  by_cases hm0 : m < 0
  · obtain ⟨g1, g2⟩ := ediv_of' (x := x) (y := y) (q := t - 1) (r := m + y) (by omega) (by rw [Int.mul_sub]; omega) (by omega) (by omega)
    rw [g1]
    simp [Tr.val, e3, decide_eq_true hm0, w4, w5]
  · obtain ⟨g1, g2⟩ := ediv_of' (x := x) (y := y) (q := t) (r := m) (by omega) (by omega) (by omega) (by omega)
    rw [g1]
    simp [Tr.val, e3, decide_eq_false hm0, w4, w5]
noncomputable def rou_g : List AV → Option (Tr AV)
  | [.one (.v _ (.int .i64 a)), .one (.v _ (.int .i64 b))] => some (.br (decide (-1152921504606846976 ≤ a) && decide (a ≤ 1152921504606846976) && decide (0 < b) && decide (b ≤ 1099511627776)) (.ret (.one (.v false (.int .i64 ((2 * a + b) / (2 * b)))))) (.bad 900))
  | _ => none
set_option maxHeartbeats 4000000 in
theorem rou_ok : FunOK Try.prog 54 rou_g := by
  refine fun_ok (by kernel_rfl) (seA_S54_ok) (L0_ok _) 8 (On := (opens [])) (fun args t h => ?_)
  unfold rou_g at h
  split at h
  · rename_i _ a _ b
    simp only [Option.some.injEq] at h
    subst h
    refine ⟨[.one (.v false (.int .i64 a)), .one (.v false (.int .i64 b))], rfl, fun fr w us h => h, fun r hr => ?_⟩
    obtain ⟨hc, hr⟩ := br_bad hr
    simp only [Tr.val, Option.some.injEq] at hr
    subst hr
    rw [rou_tree]
    exact rou_val a b hc
  · cases h
noncomputable def seA_S55 : Sums := addS 54 rou_g seA_S54
theorem seA_S55_ok : SumOK Try.prog seA_S55 := addS_ok (rou_ok) (seA_S54_ok)
def vOk (x y z : Int) : Bool := decide (-65536 ≤ x ∧ x ≤ 65536 ∧ -65536 ≤ y ∧ y ≤ 65536 ∧ -65536 ≤ z ∧ z ≤ 65536)
set_option maxRecDepth 100000 in
theorem vva_tree (x : Int) (y : Int) (z : Int) : evalF Try.prog seA_S55 (opens []) L0 8 33 [.ag [.v false (.int .i64 x), .v false (.int .i64 y), .v false (.int .i64 z)]] = .ret (.one (.v false (.bool (bif bif bif bif bif decide (IntKind.wrap IntKind.i64 ((0 : Int) - (65536 : Int)) ≤ x) then decide (x ≤ (65536 : Int)) else false then decide (IntKind.wrap IntKind.i64 ((0 : Int) - (65536 : Int)) ≤ y) else false then decide (y ≤ (65536 : Int)) else false then decide (IntKind.wrap IntKind.i64 ((0 : Int) - (65536 : Int)) ≤ z) else false then decide (z ≤ (65536 : Int)) else false)))) := by kernel_rfl
set_option maxHeartbeats 4000000 in
theorem vva_val (x : Int) (y : Int) (z : Int) : (.ret (.one (.v false (.bool (bif bif bif bif bif decide (IntKind.wrap IntKind.i64 ((0 : Int) - (65536 : Int)) ≤ x) then decide (x ≤ (65536 : Int)) else false then decide (IntKind.wrap IntKind.i64 ((0 : Int) - (65536 : Int)) ≤ y) else false then decide (y ≤ (65536 : Int)) else false then decide (IntKind.wrap IntKind.i64 ((0 : Int) - (65536 : Int)) ≤ z) else false then decide (z ≤ (65536 : Int)) else false)))) : Tr AV).val = some (.one (.v false (.bool (vOk x y z)))) := by
  have w : IntKind.i64.wrap ((0 : Int) - 65536) = -65536 := by decide
  rw [w]
  simp only [Tr.val, Option.some.injEq, AV.one.injEq, CV.v.injEq, Value.bool.injEq, true_and]
  rw [Bool.eq_iff_iff]
  simp [vOk, Bool.cond_eq_ite]
  try omega
noncomputable def vva_g : List AV → Option (Tr AV)
  | [.ag [.v _ (.int .i64 x), .v _ (.int .i64 y), .v _ (.int .i64 z)]] => some (.ret (.one (.v false (.bool (vOk x y z)))))
  | _ => none
set_option maxHeartbeats 4000000 in
theorem vva_ok : FunOK Try.prog 33 vva_g := by
  refine fun_ok (by kernel_rfl) (seA_S55_ok) (L0_ok _) 8 (On := (opens [])) (fun args t h => ?_)
  unfold vva_g at h
  split at h
  · rename_i _ x _ y _ z
    simp only [Option.some.injEq] at h
    subst h
    refine ⟨[.ag [.v false (.int .i64 x), .v false (.int .i64 y), .v false (.int .i64 z)]], rfl, fun fr w us h => h, fun r hr => ?_⟩
    simp only [Tr.val, Option.some.injEq] at hr
    subst hr
    rw [vva_tree]
    exact vva_val x y z
  · cases h
noncomputable def seA_S56 : Sums := addS 33 vva_g seA_S55
theorem seA_S56_ok : SumOK Try.prog seA_S56 := addS_ok (vva_ok) (seA_S55_ok)
set_option maxRecDepth 100000 in
theorem rva_tree (x : Int) (y : Int) (z : Int) : evalF Try.prog seA_S56 (opens []) L0 8 46 [.ag [.v false (.int .i64 x), .v false (.int .i64 y), .v false (.int .i64 z)]] = .ret (.one (.v false (.bool (bif bif bif bif bif decide (x ≥ IntKind.wrap IntKind.i64 ((0 : Int) - (65536 : Int))) then decide (x ≤ (65536 : Int)) else false then decide (y ≥ IntKind.wrap IntKind.i64 ((0 : Int) - (65536 : Int))) else false then decide (y ≤ (65536 : Int)) else false then decide (z ≥ IntKind.wrap IntKind.i64 ((0 : Int) - (65536 : Int))) else false then decide (z ≤ (65536 : Int)) else false)))) := by kernel_rfl
set_option maxHeartbeats 4000000 in
theorem rva_val (x : Int) (y : Int) (z : Int) : (.ret (.one (.v false (.bool (bif bif bif bif bif decide (x ≥ IntKind.wrap IntKind.i64 ((0 : Int) - (65536 : Int))) then decide (x ≤ (65536 : Int)) else false then decide (y ≥ IntKind.wrap IntKind.i64 ((0 : Int) - (65536 : Int))) else false then decide (y ≤ (65536 : Int)) else false then decide (z ≥ IntKind.wrap IntKind.i64 ((0 : Int) - (65536 : Int))) else false then decide (z ≤ (65536 : Int)) else false)))) : Tr AV).val = some (.one (.v false (.bool (vOk x y z)))) := by
  have w : IntKind.i64.wrap ((0 : Int) - 65536) = -65536 := by decide
  rw [w]
  simp only [Tr.val, Option.some.injEq, AV.one.injEq, CV.v.injEq, Value.bool.injEq, true_and]
  rw [Bool.eq_iff_iff]
  simp [vOk, Bool.cond_eq_ite]
  try omega
noncomputable def rva_g : List AV → Option (Tr AV)
  | [.ag [.v _ (.int .i64 x), .v _ (.int .i64 y), .v _ (.int .i64 z)]] => some (.ret (.one (.v false (.bool (vOk x y z)))))
  | _ => none
set_option maxHeartbeats 4000000 in
theorem rva_ok : FunOK Try.prog 46 rva_g := by
  refine fun_ok (by kernel_rfl) (seA_S56_ok) (L0_ok _) 8 (On := (opens [])) (fun args t h => ?_)
  unfold rva_g at h
  split at h
  · rename_i _ x _ y _ z
    simp only [Option.some.injEq] at h
    subst h
    refine ⟨[.ag [.v false (.int .i64 x), .v false (.int .i64 y), .v false (.int .i64 z)]], rfl, fun fr w us h => h, fun r hr => ?_⟩
    simp only [Tr.val, Option.some.injEq] at hr
    subst hr
    rw [rva_tree]
    exact rva_val x y z
  · cases h
noncomputable def seA_S57 : Sums := addS 46 rva_g seA_S56
theorem seA_S57_ok : SumOK Try.prog seA_S57 := addS_ok (rva_ok) (seA_S56_ok)
def sB (ax ay az bx by_ bz z : Int) : Bool := bif bif bif !vOk ax ay az then true else !vOk bx by_ bz then true else decide (az > z) then true else decide (z ≥ bz)
def mid (a b n d : Int) : Int := a + (2 * ((b - a) * n) + d) / (2 * d)
theorem sB_false {ax ay az bx by_ bz z : Int} (h : sB ax ay az bx by_ bz z = false) : vOk ax ay az = true ∧ (-65536 ≤ ax ∧ ax ≤ 65536 ∧ -65536 ≤ ay ∧ ay ≤ 65536 ∧ -65536 ≤ az ∧ az ≤ 65536) ∧ (-65536 ≤ bx ∧ bx ≤ 65536 ∧ -65536 ≤ by_ ∧ by_ ≤ 65536 ∧ -65536 ≤ bz ∧ bz ≤ 65536) ∧ az ≤ z ∧ z < bz := by
  unfold sB at h
  cases h1 : vOk ax ay az
  · rw [h1] at h; simp at h
  · cases h2 : vOk bx by_ bz
    · rw [h1, h2] at h; simp at h
    · rw [h1, h2] at h
      simp [Bool.cond_eq_ite] at h
      exact ⟨rfl, of_decide_eq_true h1, of_decide_eq_true h2, by omega, by omega⟩
theorem mid_in {a b n d : Int} (hd : 0 < d) (h0 : 0 ≤ n) (h1 : n ≤ d) : min a b ≤ mid a b n d ∧ mid a b n d ≤ max a b := by
  unfold mid
  rcases Int.le_total a b with h | h
  · have k0 : 0 ≤ (b - a) * n := Int.mul_nonneg (by omega) h0
    have k1 : (b - a) * n ≤ (b - a) * d := Int.mul_le_mul_of_nonneg_left h1 (by omega)
    have u : (2 * ((b - a) * n) + d) / (2 * d) < b - a + 1 := Int.ediv_lt_of_lt_mul (by omega) (by rw [Int.add_mul, Int.one_mul, show (b - a) * (2 * d) = 2 * ((b - a) * d) by grind]; omega)
    have l : 0 ≤ (2 * ((b - a) * n) + d) / (2 * d) := Int.ediv_nonneg (by omega) (by omega)
    omega
  · have k0 : (b - a) * n ≤ 0 := Int.mul_nonpos_of_nonpos_of_nonneg (by omega) h0
    have k1 : (b - a) * d ≤ (b - a) * n := by
      have := Int.mul_le_mul_of_nonneg_left h1 (show 0 ≤ a - b by omega)
      rw [Int.sub_mul, Int.sub_mul] at this ⊢
      omega
    have u : (2 * ((b - a) * n) + d) / (2 * d) < 1 := Int.ediv_lt_of_lt_mul (by omega) (by omega)
    have l : b - a ≤ (2 * ((b - a) * n) + d) / (2 * d) := Int.le_ediv_of_mul_le (by omega) (by rw [show (b - a) * (2 * d) = 2 * ((b - a) * d) by grind]; omega)
    omega
theorem prod_in {x n : Int} (hx : -131072 ≤ x ∧ x ≤ 131072) (hn : 0 ≤ n ∧ n ≤ 262145) : -34359869440 ≤ x * n ∧ x * n ≤ 34359869440 := by
  have k1 : x * n ≤ 131072 * n := Int.mul_le_mul_of_nonneg_right hx.2 hn.1
  have k0 : -131072 * n ≤ x * n := Int.mul_le_mul_of_nonneg_right hx.1 hn.1
  omega
set_option maxRecDepth 100000 in
theorem spt_tree (ax : Int) (ay : Int) (az : Int) (bx : Int) (by_ : Int) (bz : Int) (z : Int) : evalF Try.prog seA_S57 (opens []) L0 8 36 [.ag [.v false (.int .i64 ax), .v false (.int .i64 ay), .v false (.int .i64 az)], .ag [.v false (.int .i64 bx), .v false (.int .i64 by_), .v false (.int .i64 bz)], .one (.v false (.int .i64 z))] = .br ((bif sB ax ay az bx by_ bz z then true else (((decide ((-1152921504606846976 : Int) ≤ IntKind.wrap IntKind.i64 (IntKind.wrap IntKind.i64 (bx - ax) * IntKind.wrap IntKind.i64 (IntKind.wrap IntKind.i64 (IntKind.wrap IntKind.i64 ((2 : Int) * z) + (1 : Int)) - IntKind.wrap IntKind.i64 ((2 : Int) * az)))) && decide (IntKind.wrap IntKind.i64 (IntKind.wrap IntKind.i64 (bx - ax) * IntKind.wrap IntKind.i64 (IntKind.wrap IntKind.i64 (IntKind.wrap IntKind.i64 ((2 : Int) * z) + (1 : Int)) - IntKind.wrap IntKind.i64 ((2 : Int) * az))) ≤ (1152921504606846976 : Int)) && decide ((0 : Int) < IntKind.wrap IntKind.i64 ((2 : Int) * IntKind.wrap IntKind.i64 (bz - az))) && decide (IntKind.wrap IntKind.i64 ((2 : Int) * IntKind.wrap IntKind.i64 (bz - az)) ≤ (1099511627776 : Int)))) && ((decide ((-1152921504606846976 : Int) ≤ IntKind.wrap IntKind.i64 (IntKind.wrap IntKind.i64 (by_ - ay) * IntKind.wrap IntKind.i64 (IntKind.wrap IntKind.i64 (IntKind.wrap IntKind.i64 ((2 : Int) * z) + (1 : Int)) - IntKind.wrap IntKind.i64 ((2 : Int) * az)))) && decide (IntKind.wrap IntKind.i64 (IntKind.wrap IntKind.i64 (by_ - ay) * IntKind.wrap IntKind.i64 (IntKind.wrap IntKind.i64 (IntKind.wrap IntKind.i64 ((2 : Int) * z) + (1 : Int)) - IntKind.wrap IntKind.i64 ((2 : Int) * az))) ≤ (1152921504606846976 : Int)) && decide ((0 : Int) < IntKind.wrap IntKind.i64 ((2 : Int) * IntKind.wrap IntKind.i64 (bz - az))) && decide (IntKind.wrap IntKind.i64 ((2 : Int) * IntKind.wrap IntKind.i64 (bz - az)) ≤ (1099511627776 : Int))))))) (.ret (.tup [(true, [.v false (.int .i64 (bif sB ax ay az bx by_ bz z then (0 : Int) else IntKind.wrap IntKind.i64 (ax + ((2 : Int) * IntKind.wrap IntKind.i64 (IntKind.wrap IntKind.i64 (bx - ax) * IntKind.wrap IntKind.i64 (IntKind.wrap IntKind.i64 (IntKind.wrap IntKind.i64 ((2 : Int) * z) + (1 : Int)) - IntKind.wrap IntKind.i64 ((2 : Int) * az))) + IntKind.wrap IntKind.i64 ((2 : Int) * IntKind.wrap IntKind.i64 (bz - az))) / ((2 : Int) * IntKind.wrap IntKind.i64 ((2 : Int) * IntKind.wrap IntKind.i64 (bz - az)))))), .v false (.int .i64 (bif sB ax ay az bx by_ bz z then (0 : Int) else IntKind.wrap IntKind.i64 (ay + ((2 : Int) * IntKind.wrap IntKind.i64 (IntKind.wrap IntKind.i64 (by_ - ay) * IntKind.wrap IntKind.i64 (IntKind.wrap IntKind.i64 (IntKind.wrap IntKind.i64 ((2 : Int) * z) + (1 : Int)) - IntKind.wrap IntKind.i64 ((2 : Int) * az))) + IntKind.wrap IntKind.i64 ((2 : Int) * IntKind.wrap IntKind.i64 (bz - az))) / ((2 : Int) * IntKind.wrap IntKind.i64 ((2 : Int) * IntKind.wrap IntKind.i64 (bz - az))))))]), (false, [.v false (.bool (bif sB ax ay az bx by_ bz z then false else true))])])) (.bad 116) := by kernel_rfl
set_option maxHeartbeats 4000000 in
theorem spt_val (ax : Int) (ay : Int) (az : Int) (bx : Int) (by_ : Int) (bz : Int) (z : Int) : (.br ((bif sB ax ay az bx by_ bz z then true else (((decide ((-1152921504606846976 : Int) ≤ IntKind.wrap IntKind.i64 (IntKind.wrap IntKind.i64 (bx - ax) * IntKind.wrap IntKind.i64 (IntKind.wrap IntKind.i64 (IntKind.wrap IntKind.i64 ((2 : Int) * z) + (1 : Int)) - IntKind.wrap IntKind.i64 ((2 : Int) * az)))) && decide (IntKind.wrap IntKind.i64 (IntKind.wrap IntKind.i64 (bx - ax) * IntKind.wrap IntKind.i64 (IntKind.wrap IntKind.i64 (IntKind.wrap IntKind.i64 ((2 : Int) * z) + (1 : Int)) - IntKind.wrap IntKind.i64 ((2 : Int) * az))) ≤ (1152921504606846976 : Int)) && decide ((0 : Int) < IntKind.wrap IntKind.i64 ((2 : Int) * IntKind.wrap IntKind.i64 (bz - az))) && decide (IntKind.wrap IntKind.i64 ((2 : Int) * IntKind.wrap IntKind.i64 (bz - az)) ≤ (1099511627776 : Int)))) && ((decide ((-1152921504606846976 : Int) ≤ IntKind.wrap IntKind.i64 (IntKind.wrap IntKind.i64 (by_ - ay) * IntKind.wrap IntKind.i64 (IntKind.wrap IntKind.i64 (IntKind.wrap IntKind.i64 ((2 : Int) * z) + (1 : Int)) - IntKind.wrap IntKind.i64 ((2 : Int) * az)))) && decide (IntKind.wrap IntKind.i64 (IntKind.wrap IntKind.i64 (by_ - ay) * IntKind.wrap IntKind.i64 (IntKind.wrap IntKind.i64 (IntKind.wrap IntKind.i64 ((2 : Int) * z) + (1 : Int)) - IntKind.wrap IntKind.i64 ((2 : Int) * az))) ≤ (1152921504606846976 : Int)) && decide ((0 : Int) < IntKind.wrap IntKind.i64 ((2 : Int) * IntKind.wrap IntKind.i64 (bz - az))) && decide (IntKind.wrap IntKind.i64 ((2 : Int) * IntKind.wrap IntKind.i64 (bz - az)) ≤ (1099511627776 : Int))))))) (.ret (.tup [(true, [.v false (.int .i64 (bif sB ax ay az bx by_ bz z then (0 : Int) else IntKind.wrap IntKind.i64 (ax + ((2 : Int) * IntKind.wrap IntKind.i64 (IntKind.wrap IntKind.i64 (bx - ax) * IntKind.wrap IntKind.i64 (IntKind.wrap IntKind.i64 (IntKind.wrap IntKind.i64 ((2 : Int) * z) + (1 : Int)) - IntKind.wrap IntKind.i64 ((2 : Int) * az))) + IntKind.wrap IntKind.i64 ((2 : Int) * IntKind.wrap IntKind.i64 (bz - az))) / ((2 : Int) * IntKind.wrap IntKind.i64 ((2 : Int) * IntKind.wrap IntKind.i64 (bz - az)))))), .v false (.int .i64 (bif sB ax ay az bx by_ bz z then (0 : Int) else IntKind.wrap IntKind.i64 (ay + ((2 : Int) * IntKind.wrap IntKind.i64 (IntKind.wrap IntKind.i64 (by_ - ay) * IntKind.wrap IntKind.i64 (IntKind.wrap IntKind.i64 (IntKind.wrap IntKind.i64 ((2 : Int) * z) + (1 : Int)) - IntKind.wrap IntKind.i64 ((2 : Int) * az))) + IntKind.wrap IntKind.i64 ((2 : Int) * IntKind.wrap IntKind.i64 (bz - az))) / ((2 : Int) * IntKind.wrap IntKind.i64 ((2 : Int) * IntKind.wrap IntKind.i64 (bz - az))))))]), (false, [.v false (.bool (bif sB ax ay az bx by_ bz z then false else true))])])) (.bad 116) : Tr AV).val = some (.tup [(true, [.v false (.int .i64 (bif sB ax ay az bx by_ bz z then 0 else mid ax bx (2 * z + 1 - 2 * az) (2 * (bz - az)))), .v false (.int .i64 (bif sB ax ay az bx by_ bz z then 0 else mid ay by_ (2 * z + 1 - 2 * az) (2 * (bz - az))))]), (false, [.v false (.bool (bif sB ax ay az bx by_ bz z then false else true))])]) := by
  cases hB : sB ax ay az bx by_ bz z
  · obtain ⟨hv, ⟨a1, a2, a3, a4, a5, a6⟩, ⟨b1, b2, b3, b4, b5, b6⟩, c1, c2⟩ := sB_false hB
    have w1 : IntKind.i64.wrap (bx - ax) = bx - ax := IntWalk.i64_in _ ⟨by omega, by omega⟩
    have w2 : IntKind.i64.wrap (by_ - ay) = by_ - ay := IntWalk.i64_in _ ⟨by omega, by omega⟩
    have w3 : IntKind.i64.wrap (2 * z) = 2 * z := IntWalk.i64_in _ ⟨by omega, by omega⟩
    have w4 : IntKind.i64.wrap (2 * z + 1) = 2 * z + 1 := IntWalk.i64_in _ ⟨by omega, by omega⟩
    have w5 : IntKind.i64.wrap (2 * az) = 2 * az := IntWalk.i64_in _ ⟨by omega, by omega⟩
    have w6 : IntKind.i64.wrap (2 * z + 1 - 2 * az) = 2 * z + 1 - 2 * az := IntWalk.i64_in _ ⟨by omega, by omega⟩
    have w7 : IntKind.i64.wrap (bz - az) = bz - az := IntWalk.i64_in _ ⟨by omega, by omega⟩
    have w8 : IntKind.i64.wrap (2 * (bz - az)) = 2 * (bz - az) := IntWalk.i64_in _ ⟨by omega, by omega⟩
    have m1 := mid_in (a := ax) (b := bx) (n := 2 * z + 1 - 2 * az) (d := 2 * (bz - az)) (by omega) (by omega) (by omega)
    have m2 := mid_in (a := ay) (b := by_) (n := 2 * z + 1 - 2 * az) (d := 2 * (bz - az)) (by omega) (by omega) (by omega)
    obtain ⟨n, hn⟩ : ∃ n, 2 * z + 1 - 2 * az = n := ⟨_, rfl⟩
    obtain ⟨d, hd⟩ : ∃ d, 2 * (bz - az) = d := ⟨_, rfl⟩
    have p1 := prod_in (x := bx - ax) (n := n) (by omega) (by omega)
    have p2 := prod_in (x := by_ - ay) (n := n) (by omega) (by omega)
    have w9 : IntKind.i64.wrap ((bx - ax) * n) = (bx - ax) * n := IntWalk.i64_in _ ⟨by omega, by omega⟩
    have w10 : IntKind.i64.wrap ((by_ - ay) * n) = (by_ - ay) * n := IntWalk.i64_in _ ⟨by omega, by omega⟩
    rw [hn, hd] at m1 m2
    have w11 : IntKind.i64.wrap (mid ax bx n d) = mid ax bx n d := IntWalk.i64_in _ ⟨by omega, by omega⟩
    have w12 : IntKind.i64.wrap (mid ay by_ n d) = mid ay by_ n d := IntWalk.i64_in _ ⟨by omega, by omega⟩
    rw [w3, w4, w5, w6, w7, w8, w1, w2, hn, hd, w9, w10]
    have f1 : ax + (2 * ((bx - ax) * n) + d) / (2 * d) = mid ax bx n d := rfl
    have f2 : ay + (2 * ((by_ - ay) * n) + d) / (2 * d) = mid ay by_ n d := rfl
    rw [f1, f2, w11, w12]
    have e1 : decide ((-1152921504606846976 : Int) ≤ (bx - ax) * n) = true := decide_eq_true (by omega)
    have e2 : decide ((bx - ax) * n ≤ (1152921504606846976 : Int)) = true := decide_eq_true (by omega)
    have e3 : decide ((-1152921504606846976 : Int) ≤ (by_ - ay) * n) = true := decide_eq_true (by omega)
    have e4 : decide ((by_ - ay) * n ≤ (1152921504606846976 : Int)) = true := decide_eq_true (by omega)
    have e5 : decide (0 < d) = true := decide_eq_true (by omega)
    have e6 : decide (d ≤ (1099511627776 : Int)) = true := decide_eq_true (by omega)
    rw [e1, e2, e3, e4, e5, e6]
    rfl
  · cases vOk ax ay az <;> rfl
noncomputable def spt_g : List AV → Option (Tr AV)
  | [.ag [.v _ (.int .i64 ax), .v _ (.int .i64 ay), .v _ (.int .i64 az)], .ag [.v _ (.int .i64 bx), .v _ (.int .i64 by_), .v _ (.int .i64 bz)], .one (.v _ (.int .i64 z))] => some (.ret (.tup [(true, [.v false (.int .i64 (bif sB ax ay az bx by_ bz z then 0 else mid ax bx (2 * z + 1 - 2 * az) (2 * (bz - az)))), .v false (.int .i64 (bif sB ax ay az bx by_ bz z then 0 else mid ay by_ (2 * z + 1 - 2 * az) (2 * (bz - az))))]), (false, [.v false (.bool (bif sB ax ay az bx by_ bz z then false else true))])]))
  | _ => none
set_option maxHeartbeats 4000000 in
theorem spt_ok : FunOK Try.prog 36 spt_g := by
  refine fun_ok (by kernel_rfl) (seA_S57_ok) (L0_ok _) 8 (On := (opens [])) (fun args t h => ?_)
  unfold spt_g at h
  split at h
  · rename_i _ ax _ ay _ az _ bx _ by_ _ bz _ z
    simp only [Option.some.injEq] at h
    subst h
    refine ⟨[.ag [.v false (.int .i64 ax), .v false (.int .i64 ay), .v false (.int .i64 az)], .ag [.v false (.int .i64 bx), .v false (.int .i64 by_), .v false (.int .i64 bz)], .one (.v false (.int .i64 z))], rfl, fun fr w us h => h, fun r hr => ?_⟩
    simp only [Tr.val, Option.some.injEq] at hr
    subst hr
    rw [spt_tree]
    exact spt_val ax ay az bx by_ bz z
  · cases h
noncomputable def seA_S58 : Sums := addS 36 spt_g seA_S57
theorem seA_S58_ok : SumOK Try.prog seA_S58 := addS_ok (spt_ok) (seA_S57_ok)
set_option maxRecDepth 100000 in
theorem rpt_tree (ax : Int) (ay : Int) (az : Int) (bx : Int) (by_ : Int) (bz : Int) (z : Int) : evalF Try.prog seA_S58 (opens []) L0 8 38 [.ag [.v false (.int .i64 ax), .v false (.int .i64 ay), .v false (.int .i64 az)], .ag [.v false (.int .i64 bx), .v false (.int .i64 by_), .v false (.int .i64 bz)], .one (.v false (.int .i64 z))] = .br ((bif sB ax ay az bx by_ bz z then true else ((decide ((-1152921504606846976 : Int) ≤ IntKind.wrap IntKind.i64 (IntKind.wrap IntKind.i64 (bx - ax) * IntKind.wrap IntKind.i64 (IntKind.wrap IntKind.i64 (IntKind.wrap IntKind.i64 ((2 : Int) * z) + (1 : Int)) - IntKind.wrap IntKind.i64 ((2 : Int) * az)))) && decide (IntKind.wrap IntKind.i64 (IntKind.wrap IntKind.i64 (bx - ax) * IntKind.wrap IntKind.i64 (IntKind.wrap IntKind.i64 (IntKind.wrap IntKind.i64 ((2 : Int) * z) + (1 : Int)) - IntKind.wrap IntKind.i64 ((2 : Int) * az))) ≤ (1152921504606846976 : Int)) && decide ((0 : Int) < IntKind.wrap IntKind.i64 ((2 : Int) * IntKind.wrap IntKind.i64 (bz - az))) && decide (IntKind.wrap IntKind.i64 ((2 : Int) * IntKind.wrap IntKind.i64 (bz - az)) ≤ (1099511627776 : Int))) && (decide ((-1152921504606846976 : Int) ≤ IntKind.wrap IntKind.i64 (IntKind.wrap IntKind.i64 (by_ - ay) * IntKind.wrap IntKind.i64 (IntKind.wrap IntKind.i64 (IntKind.wrap IntKind.i64 ((2 : Int) * z) + (1 : Int)) - IntKind.wrap IntKind.i64 ((2 : Int) * az)))) && decide (IntKind.wrap IntKind.i64 (IntKind.wrap IntKind.i64 (by_ - ay) * IntKind.wrap IntKind.i64 (IntKind.wrap IntKind.i64 (IntKind.wrap IntKind.i64 ((2 : Int) * z) + (1 : Int)) - IntKind.wrap IntKind.i64 ((2 : Int) * az))) ≤ (1152921504606846976 : Int)) && decide ((0 : Int) < IntKind.wrap IntKind.i64 ((2 : Int) * IntKind.wrap IntKind.i64 (bz - az))) && decide (IntKind.wrap IntKind.i64 ((2 : Int) * IntKind.wrap IntKind.i64 (bz - az)) ≤ (1099511627776 : Int)))))) (.ret (.tup [(true, [.v false (.int .i64 (bif sB ax ay az bx by_ bz z then (0 : Int) else IntKind.wrap IntKind.i64 (ax + ((2 : Int) * IntKind.wrap IntKind.i64 (IntKind.wrap IntKind.i64 (bx - ax) * IntKind.wrap IntKind.i64 (IntKind.wrap IntKind.i64 (IntKind.wrap IntKind.i64 ((2 : Int) * z) + (1 : Int)) - IntKind.wrap IntKind.i64 ((2 : Int) * az))) + IntKind.wrap IntKind.i64 ((2 : Int) * IntKind.wrap IntKind.i64 (bz - az))) / ((2 : Int) * IntKind.wrap IntKind.i64 ((2 : Int) * IntKind.wrap IntKind.i64 (bz - az)))))), .v false (.int .i64 (bif sB ax ay az bx by_ bz z then (0 : Int) else IntKind.wrap IntKind.i64 (ay + ((2 : Int) * IntKind.wrap IntKind.i64 (IntKind.wrap IntKind.i64 (by_ - ay) * IntKind.wrap IntKind.i64 (IntKind.wrap IntKind.i64 (IntKind.wrap IntKind.i64 ((2 : Int) * z) + (1 : Int)) - IntKind.wrap IntKind.i64 ((2 : Int) * az))) + IntKind.wrap IntKind.i64 ((2 : Int) * IntKind.wrap IntKind.i64 (bz - az))) / ((2 : Int) * IntKind.wrap IntKind.i64 ((2 : Int) * IntKind.wrap IntKind.i64 (bz - az))))))]), (false, [.v false (.bool (bif sB ax ay az bx by_ bz z then false else true))])])) (.bad 116) := by kernel_rfl
set_option maxHeartbeats 4000000 in
theorem rpt_val (ax : Int) (ay : Int) (az : Int) (bx : Int) (by_ : Int) (bz : Int) (z : Int) : (.br ((bif sB ax ay az bx by_ bz z then true else ((decide ((-1152921504606846976 : Int) ≤ IntKind.wrap IntKind.i64 (IntKind.wrap IntKind.i64 (bx - ax) * IntKind.wrap IntKind.i64 (IntKind.wrap IntKind.i64 (IntKind.wrap IntKind.i64 ((2 : Int) * z) + (1 : Int)) - IntKind.wrap IntKind.i64 ((2 : Int) * az)))) && decide (IntKind.wrap IntKind.i64 (IntKind.wrap IntKind.i64 (bx - ax) * IntKind.wrap IntKind.i64 (IntKind.wrap IntKind.i64 (IntKind.wrap IntKind.i64 ((2 : Int) * z) + (1 : Int)) - IntKind.wrap IntKind.i64 ((2 : Int) * az))) ≤ (1152921504606846976 : Int)) && decide ((0 : Int) < IntKind.wrap IntKind.i64 ((2 : Int) * IntKind.wrap IntKind.i64 (bz - az))) && decide (IntKind.wrap IntKind.i64 ((2 : Int) * IntKind.wrap IntKind.i64 (bz - az)) ≤ (1099511627776 : Int))) && (decide ((-1152921504606846976 : Int) ≤ IntKind.wrap IntKind.i64 (IntKind.wrap IntKind.i64 (by_ - ay) * IntKind.wrap IntKind.i64 (IntKind.wrap IntKind.i64 (IntKind.wrap IntKind.i64 ((2 : Int) * z) + (1 : Int)) - IntKind.wrap IntKind.i64 ((2 : Int) * az)))) && decide (IntKind.wrap IntKind.i64 (IntKind.wrap IntKind.i64 (by_ - ay) * IntKind.wrap IntKind.i64 (IntKind.wrap IntKind.i64 (IntKind.wrap IntKind.i64 ((2 : Int) * z) + (1 : Int)) - IntKind.wrap IntKind.i64 ((2 : Int) * az))) ≤ (1152921504606846976 : Int)) && decide ((0 : Int) < IntKind.wrap IntKind.i64 ((2 : Int) * IntKind.wrap IntKind.i64 (bz - az))) && decide (IntKind.wrap IntKind.i64 ((2 : Int) * IntKind.wrap IntKind.i64 (bz - az)) ≤ (1099511627776 : Int)))))) (.ret (.tup [(true, [.v false (.int .i64 (bif sB ax ay az bx by_ bz z then (0 : Int) else IntKind.wrap IntKind.i64 (ax + ((2 : Int) * IntKind.wrap IntKind.i64 (IntKind.wrap IntKind.i64 (bx - ax) * IntKind.wrap IntKind.i64 (IntKind.wrap IntKind.i64 (IntKind.wrap IntKind.i64 ((2 : Int) * z) + (1 : Int)) - IntKind.wrap IntKind.i64 ((2 : Int) * az))) + IntKind.wrap IntKind.i64 ((2 : Int) * IntKind.wrap IntKind.i64 (bz - az))) / ((2 : Int) * IntKind.wrap IntKind.i64 ((2 : Int) * IntKind.wrap IntKind.i64 (bz - az)))))), .v false (.int .i64 (bif sB ax ay az bx by_ bz z then (0 : Int) else IntKind.wrap IntKind.i64 (ay + ((2 : Int) * IntKind.wrap IntKind.i64 (IntKind.wrap IntKind.i64 (by_ - ay) * IntKind.wrap IntKind.i64 (IntKind.wrap IntKind.i64 (IntKind.wrap IntKind.i64 ((2 : Int) * z) + (1 : Int)) - IntKind.wrap IntKind.i64 ((2 : Int) * az))) + IntKind.wrap IntKind.i64 ((2 : Int) * IntKind.wrap IntKind.i64 (bz - az))) / ((2 : Int) * IntKind.wrap IntKind.i64 ((2 : Int) * IntKind.wrap IntKind.i64 (bz - az))))))]), (false, [.v false (.bool (bif sB ax ay az bx by_ bz z then false else true))])])) (.bad 116) : Tr AV).val = some (.tup [(true, [.v false (.int .i64 (bif sB ax ay az bx by_ bz z then 0 else mid ax bx (2 * z + 1 - 2 * az) (2 * (bz - az)))), .v false (.int .i64 (bif sB ax ay az bx by_ bz z then 0 else mid ay by_ (2 * z + 1 - 2 * az) (2 * (bz - az))))]), (false, [.v false (.bool (bif sB ax ay az bx by_ bz z then false else true))])]) := by
  cases hB : sB ax ay az bx by_ bz z
  · obtain ⟨hv, ⟨a1, a2, a3, a4, a5, a6⟩, ⟨b1, b2, b3, b4, b5, b6⟩, c1, c2⟩ := sB_false hB
    have w1 : IntKind.i64.wrap (bx - ax) = bx - ax := IntWalk.i64_in _ ⟨by omega, by omega⟩
    have w2 : IntKind.i64.wrap (by_ - ay) = by_ - ay := IntWalk.i64_in _ ⟨by omega, by omega⟩
    have w3 : IntKind.i64.wrap (2 * z) = 2 * z := IntWalk.i64_in _ ⟨by omega, by omega⟩
    have w4 : IntKind.i64.wrap (2 * z + 1) = 2 * z + 1 := IntWalk.i64_in _ ⟨by omega, by omega⟩
    have w5 : IntKind.i64.wrap (2 * az) = 2 * az := IntWalk.i64_in _ ⟨by omega, by omega⟩
    have w6 : IntKind.i64.wrap (2 * z + 1 - 2 * az) = 2 * z + 1 - 2 * az := IntWalk.i64_in _ ⟨by omega, by omega⟩
    have w7 : IntKind.i64.wrap (bz - az) = bz - az := IntWalk.i64_in _ ⟨by omega, by omega⟩
    have w8 : IntKind.i64.wrap (2 * (bz - az)) = 2 * (bz - az) := IntWalk.i64_in _ ⟨by omega, by omega⟩
    have m1 := mid_in (a := ax) (b := bx) (n := 2 * z + 1 - 2 * az) (d := 2 * (bz - az)) (by omega) (by omega) (by omega)
    have m2 := mid_in (a := ay) (b := by_) (n := 2 * z + 1 - 2 * az) (d := 2 * (bz - az)) (by omega) (by omega) (by omega)
    obtain ⟨n, hn⟩ : ∃ n, 2 * z + 1 - 2 * az = n := ⟨_, rfl⟩
    obtain ⟨d, hd⟩ : ∃ d, 2 * (bz - az) = d := ⟨_, rfl⟩
    have p1 := prod_in (x := bx - ax) (n := n) (by omega) (by omega)
    have p2 := prod_in (x := by_ - ay) (n := n) (by omega) (by omega)
    have w9 : IntKind.i64.wrap ((bx - ax) * n) = (bx - ax) * n := IntWalk.i64_in _ ⟨by omega, by omega⟩
    have w10 : IntKind.i64.wrap ((by_ - ay) * n) = (by_ - ay) * n := IntWalk.i64_in _ ⟨by omega, by omega⟩
    rw [hn, hd] at m1 m2
    have w11 : IntKind.i64.wrap (mid ax bx n d) = mid ax bx n d := IntWalk.i64_in _ ⟨by omega, by omega⟩
    have w12 : IntKind.i64.wrap (mid ay by_ n d) = mid ay by_ n d := IntWalk.i64_in _ ⟨by omega, by omega⟩
    rw [w3, w4, w5, w6, w7, w8, w1, w2, hn, hd, w9, w10]
    have f1 : ax + (2 * ((bx - ax) * n) + d) / (2 * d) = mid ax bx n d := rfl
    have f2 : ay + (2 * ((by_ - ay) * n) + d) / (2 * d) = mid ay by_ n d := rfl
    rw [f1, f2, w11, w12]
    have e1 : decide ((-1152921504606846976 : Int) ≤ (bx - ax) * n) = true := decide_eq_true (by omega)
    have e2 : decide ((bx - ax) * n ≤ (1152921504606846976 : Int)) = true := decide_eq_true (by omega)
    have e3 : decide ((-1152921504606846976 : Int) ≤ (by_ - ay) * n) = true := decide_eq_true (by omega)
    have e4 : decide ((by_ - ay) * n ≤ (1152921504606846976 : Int)) = true := decide_eq_true (by omega)
    have e5 : decide (0 < d) = true := decide_eq_true (by omega)
    have e6 : decide (d ≤ (1099511627776 : Int)) = true := decide_eq_true (by omega)
    rw [e1, e2, e3, e4, e5, e6]
    rfl
  · cases vOk ax ay az <;> rfl
noncomputable def rpt_g : List AV → Option (Tr AV)
  | [.ag [.v _ (.int .i64 ax), .v _ (.int .i64 ay), .v _ (.int .i64 az)], .ag [.v _ (.int .i64 bx), .v _ (.int .i64 by_), .v _ (.int .i64 bz)], .one (.v _ (.int .i64 z))] => some (.ret (.tup [(true, [.v false (.int .i64 (bif sB ax ay az bx by_ bz z then 0 else mid ax bx (2 * z + 1 - 2 * az) (2 * (bz - az)))), .v false (.int .i64 (bif sB ax ay az bx by_ bz z then 0 else mid ay by_ (2 * z + 1 - 2 * az) (2 * (bz - az))))]), (false, [.v false (.bool (bif sB ax ay az bx by_ bz z then false else true))])]))
  | _ => none
set_option maxHeartbeats 4000000 in
theorem rpt_ok : FunOK Try.prog 38 rpt_g := by
  refine fun_ok (by kernel_rfl) (seA_S58_ok) (L0_ok _) 8 (On := (opens [])) (fun args t h => ?_)
  unfold rpt_g at h
  split at h
  · rename_i _ ax _ ay _ az _ bx _ by_ _ bz _ z
    simp only [Option.some.injEq] at h
    subst h
    refine ⟨[.ag [.v false (.int .i64 ax), .v false (.int .i64 ay), .v false (.int .i64 az)], .ag [.v false (.int .i64 bx), .v false (.int .i64 by_), .v false (.int .i64 bz)], .one (.v false (.int .i64 z))], rfl, fun fr w us h => h, fun r hr => ?_⟩
    simp only [Tr.val, Option.some.injEq] at hr
    subst hr
    rw [rpt_tree]
    exact rpt_val ax ay az bx by_ bz z
  · cases h
noncomputable def seA_S59 : Sums := addS 38 rpt_g seA_S58
theorem seA_S59_ok : SumOK Try.prog seA_S59 := addS_ok (rpt_ok) (seA_S58_ok)
end Go.Proofs.Ytbagcmeeiiohpaa
