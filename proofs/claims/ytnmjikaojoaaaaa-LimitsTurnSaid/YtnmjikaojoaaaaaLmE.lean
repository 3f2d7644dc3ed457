/-
  Layer 43: LimitsTurn.
-/
import Derived.Test.YtnmjikaojoaaaaaProg
import Derived.Test.YtnmjikaojoaaaaaFvX
import Derived.Test.YtnmjikaojoaaaaaFvZ
import Derived.Test.YtnmjikaojoaaaaaAut
import Derived.Test.YtnmjikaojoaaaaaLmA
import Derived.Test.YtnmjikaojoaaaaaLmB
import Derived.Test.YtnmjikaojoaaaaaLmC
namespace Go.Proofs.Ytnmjikaojoaaaaa
open Go
theorem dv_neg (a b c d : Int) : dval (0 - a) (0 - b) (0 - c) (0 - d) = dval a b c d := by
  rw [Bool.eq_iff_iff, dv_iff, dv_iff]
  constructor <;> intro h <;> omega
set_option maxHeartbeats 4000000 in
theorem dom_neg {a b c d : Int} (h : dval a b c d = true) : dom (0 - a) (0 - b) (0 - c) (0 - d) = dom a b c d := by
  have s := dom_spec h
  have t := dom_spec (show dval (0 - a) (0 - b) (0 - c) (0 - d) = true by rw [dv_neg]; exact h)
  generalize dom a b c d = n at *
  generalize dom (0 - a) (0 - b) (0 - c) (0 - d) = k at *
  have h1 : k ≤ n := by rcases t.2 with e | e | e | e | e | e | e | e <;> omega
  have h2 : n ≤ k := by rcases s.2 with e | e | e | e | e | e | e | e <;> omega
  omega
theorem lea_le (n a b c : Int) : lea n a b c ≤ n := by
  unfold lea
  generalize quo (a * b) c = q
  cases hq : (q.2 == 0 && decide (q.1 < n))
  · exact Int.le_refl _
  · rw [Bool.and_eq_true, decide_eq_true_eq] at hq
    show q.1 ≤ n
    omega
theorem lea_quo {n a b c : Int} (h : 0 < c) (h1 : 0 ≤ a * b / c) (h2 : a * b / c ≤ 9223372036854775807) : lea n a b c ≤ a * b / c := by
  have e : quo (a * b) c = (a * b / c, 0) := by
    unfold quo fl
    rw [if_neg (by omega), if_pos h]
    exact fit_in (by omega) h2
  unfold lea
  rw [e]
  by_cases g : a * b / c < n
  · simp [g]
  · simp [g]; omega
theorem ab_sym (x y : Int) : ab (x - y) = ab (y - x) := by unfold ab; split <;> split <;> omega
theorem lea_sym (n j x y s t : Int) : lea n (j * x) y (ab (s - t)) = lea n (j * y) x (ab (t - s)) := by
  unfold lea; rw [show j * x * y = j * y * x by grind, ab_sym]
theorem ju_sym (j0 j1 j2 j3 a b c d p q u v : Int) : juE j0 j1 j2 j3 a b c d p q u v = juE j0 j1 j2 j3 p q u v a b c d := by
  unfold juE
  rw [lea_sym (1048576 : Int), lea_sym (lea _ _ _ _) j1, lea_sym (lea _ _ _ _) j2, lea_sym (lea _ _ _ _) j3]
theorem ju_same (j0 j1 j2 j3 a b c d : Int) : juE j0 j1 j2 j3 a b c d a b c d = 1048576 := by
  unfold juE
  simp only [Int.sub_self, ab_zero, lea_zero]
theorem half_quo {j n : Int} (h : 1 ≤ n) : j * n * n / (2 * n * n) = j / 2 := by
  have p : 0 < n * n := Int.mul_pos (by omega) (by omega)
  rw [show j * n * n = j * (n * n) by grind, show 2 * n * n = 2 * (n * n) by grind]
  exact Int.mul_ediv_mul_of_pos_left _ _ p
theorem lea_half {k j n x : Int} (h : 1 ≤ n) (hj : 0 ≤ j) (hj2 : j ≤ 1048576) (hx : ab x = n) : 2 * lea k (j * n) n (ab (x * n - (0 - x) * n)) ≤ j := by
  have p : 0 < n * n := Int.mul_pos (by omega) (by omega)
  have e : ab (x * n - (0 - x) * n) = 2 * n * n := by
    have hx' : x = n ∨ x = -n := by unfold ab at hx; split at hx <;> omega
    rcases hx' with g | g
    · subst g
      rw [show x * x - (0 - x) * x = 2 * x * x by grind]
      unfold ab; rw [if_neg (by rw [Int.mul_assoc]; omega)]
    · rw [g, show -n * n - (0 - -n) * n = -(2 * n * n) by grind]
      unfold ab; rw [if_pos (by rw [Int.mul_assoc]; omega)]; omega
  rw [e]
  have q := lea_quo (n := k) (a := j * n) (b := n) (c := 2 * n * n) (by rw [Int.mul_assoc]; omega) (by rw [half_quo h]; omega) (by rw [half_quo h]; omega)
  rw [half_quo h] at q
  omega
theorem ju_turn {j0 j1 j2 j3 a b c d : Int} (hd : dval a b c d = true) (h0 : 0 ≤ j0 ∧ j0 ≤ 1048576) (h1 : 0 ≤ j1 ∧ j1 ≤ 1048576) (h2 : 0 ≤ j2 ∧ j2 ≤ 1048576) (h3 : 0 ≤ j3 ∧ j3 ≤ 1048576) :
    (ab a = dom a b c d → 2 * juE j0 j1 j2 j3 a b c d (0 - a) (0 - b) (0 - c) (0 - d) ≤ j0) ∧ (ab b = dom a b c d → 2 * juE j0 j1 j2 j3 a b c d (0 - a) (0 - b) (0 - c) (0 - d) ≤ j1) ∧ (ab c = dom a b c d → 2 * juE j0 j1 j2 j3 a b c d (0 - a) (0 - b) (0 - c) (0 - d) ≤ j2) ∧ (ab d = dom a b c d → 2 * juE j0 j1 j2 j3 a b c d (0 - a) (0 - b) (0 - c) (0 - d) ≤ j3) := by
  have n1 := (dom_in a b c d).2.2 hd
  unfold juE
  rw [dom_neg hd]
  generalize dom a b c d = n at *
  obtain ⟨v0, e0⟩ : ∃ x, lea (1048576 : Int) (j0 * n) n (ab (a * n - (0 - a) * n)) = x := ⟨_, rfl⟩
  obtain ⟨v1, e1⟩ : ∃ x, lea v0 (j1 * n) n (ab (b * n - (0 - b) * n)) = x := ⟨_, rfl⟩
  obtain ⟨v2, e2⟩ : ∃ x, lea v1 (j2 * n) n (ab (c * n - (0 - c) * n)) = x := ⟨_, rfl⟩
  obtain ⟨v3, e3⟩ : ∃ x, lea v2 (j3 * n) n (ab (d * n - (0 - d) * n)) = x := ⟨_, rfl⟩
  rw [e0, e1, e2, e3]
  have l1 := lea_le v0 (j1 * n) n (ab (b * n - (0 - b) * n))
  have l2 := lea_le v1 (j2 * n) n (ab (c * n - (0 - c) * n))
  have l3 := lea_le v2 (j3 * n) n (ab (d * n - (0 - d) * n))
  rw [e1] at l1
  rw [e2] at l2
  rw [e3] at l3
  refine ⟨fun g => ?_, fun g => ?_, fun g => ?_, fun g => ?_⟩
  · have := lea_half (k := 1048576) n1 h0.1 h0.2 g
    rw [e0] at this; omega
  · have := lea_half (k := v0) n1 h1.1 h1.2 g
    rw [e1] at this; omega
  · have := lea_half (k := v1) n1 h2.1 h2.2 g
    rw [e2] at this; omega
  · have := lea_half (k := v2) n1 h3.1 h3.2 g
    rw [e3] at this; omega
theorem lea_nn {n a b c : Int} (hn : 0 ≤ n) (h : 0 ≤ a * b) (hc : 0 ≤ c) : 0 ≤ lea n a b c := by
  unfold lea
  have q : 0 ≤ (quo (a * b) c).1 := by
    unfold quo
    by_cases e : c = 0
    · rw [if_pos e]; decide
    · rw [if_neg e]
      unfold fl
      rw [if_pos (by omega)]
      have p : 0 ≤ a * b / c := Int.ediv_nonneg h hc
      unfold fit
      split
      · exact p
      · decide
  cases ((quo (a * b) c).2 == 0 && decide ((quo (a * b) c).1 < n))
  · exact hn
  · exact q
theorem ab_pos (x : Int) : 0 ≤ ab x := by unfold ab; split <;> omega
theorem ju_bd {j0 j1 j2 j3 a b c d p q u v : Int} (h0 : 0 ≤ j0) (h1 : 0 ≤ j1) (h2 : 0 ≤ j2) (h3 : 0 ≤ j3) : 0 ≤ juE j0 j1 j2 j3 a b c d p q u v ∧ juE j0 j1 j2 j3 a b c d p q u v ≤ 1048576 := by
  unfold juE
  have n0 := (dom_in a b c d).1
  have m0 := (dom_in p q u v).1
  have N : ∀ j : Int, 0 ≤ j → 0 ≤ j * dom a b c d * dom p q u v := fun j hj => Int.mul_nonneg (Int.mul_nonneg hj n0) m0
  refine ⟨lea_nn (lea_nn (lea_nn (lea_nn (by decide) (N _ h0) (ab_pos _)) (N _ h1) (ab_pos _)) (N _ h2) (ab_pos _)) (N _ h3) (ab_pos _), ?_⟩
  exact Int.le_trans (lea_le _ _ _ _) (Int.le_trans (lea_le _ _ _ _) (Int.le_trans (lea_le _ _ _ _) (lea_le _ _ _ _)))
theorem no_jump {x n v j : Int} (h : x = n → 2 * v ≤ j) : (bif x == n then decide (2 * v > j) else false) = false := by
  by_cases e : x = n
  · rw [e, beq_self_eq_true, cond_true]; exact decide_eq_false (by have := h e; omega)
  · rw [beq_false_of_ne e]; rfl
set_option maxRecDepth 100000 in
theorem lsz_tree (n : Int) : evalF Try.prog lmC_S82 (opens []) L0 9 24 [.one (.v false (.int .i64 n))] = .ret (.one (.v false (.int .i64 (bif decide (n < (0 : Int)) then IntKind.wrap IntKind.i64 ((0 : Int) - n) else n)))) := by kernel_rfl
theorem lsz_val (n : Int) (hc : (inS n) = true) : (.ret (.one (.v false (.int .i64 (bif decide (n < (0 : Int)) then IntKind.wrap IntKind.i64 ((0 : Int) - n) else n)))) : Tr AV).val = some (.one (.v false (.int .i64 (ab n)))) := by
  simp [inS] at hc
  have e : IntKind.wrap IntKind.i64 ((0 : Int) - n) = 0 - n := IntWalk.i64_in _ ⟨by omega, by omega⟩
  rw [e]
  refine congrArg (fun b => some (AV.one (.v false (.int .i64 b)))) ?_
  unfold ab
  first | (split <;> split <;> omega) | (by_cases h : n < 0 <;> simp [h])
def lsz_g : List AV → Option (Tr AV)
  | [.one (.v _ (.int .i64 n))] => some (.br (inS n) (.ret (.one (.v false (.int .i64 (ab n))))) (.bad 900))
  | _ => none
set_option maxHeartbeats 4000000 in
theorem lsz_ok : FunOK Try.prog 24 lsz_g := by
  refine fun_ok (by kernel_rfl) (lmC_S82_ok) (L0_ok _) 9 (On := (opens [])) (fun args t h => ?_)
  unfold lsz_g at h
  split at h
  · rename_i _ n
    simp only [Option.some.injEq] at h
    subst h
    refine ⟨[.one (.v false (.int .i64 n))], rfl, fun fr w us h => h, fun r hr => ?_⟩
    obtain ⟨hc, hr⟩ := br_bad hr
    simp only [Tr.val, Option.some.injEq] at hr
    subst hr
    rw [lsz_tree]
    exact lsz_val n hc
  · cases h
def lmE_S81 : Sums := addS 24 lsz_g lmC_S82
theorem lmE_S81_ok : SumOK Try.prog lmE_S81 := addS_ok (lsz_ok) (lmC_S82_ok)
set_option maxRecDepth 100000 in
theorem law_LimitsTurn_tree (n0 : Int) (d0 : Int) (s0 : Int) (a0 : Int) (j0 : Int) (y0 : Int) (h0 : Int) (n1 : Int) (d1 : Int) (s1 : Int) (a1 : Int) (j1 : Int) (y1 : Int) (h1 : Int) (n2 : Int) (d2 : Int) (s2 : Int) (a2 : Int) (j2 : Int) (y2 : Int) (h2 : Int) (n3 : Int) (d3 : Int) (s3 : Int) (a3 : Int) (j3 : Int) (y3 : Int) (h3 : Int) (xy : Bool) (tk : Int) (a : Int) (b : Int) (c : Int) (d : Int) (p : Int) (q : Int) (u : Int) (v : Int) : evalF Try.prog lmE_S81 (opens []) L0 9 7 [.ag [.v false (.int .i64 n0), .v false (.int .i64 d0), .v false (.int .i64 s0), .v false (.int .i64 a0), .v false (.int .i64 j0), .v false (.int .i64 y0), .v false (.int .i64 h0), .v false (.int .i64 n1), .v false (.int .i64 d1), .v false (.int .i64 s1), .v false (.int .i64 a1), .v false (.int .i64 j1), .v false (.int .i64 y1), .v false (.int .i64 h1), .v false (.int .i64 n2), .v false (.int .i64 d2), .v false (.int .i64 s2), .v false (.int .i64 a2), .v false (.int .i64 j2), .v false (.int .i64 y2), .v false (.int .i64 h2), .v false (.int .i64 n3), .v false (.int .i64 d3), .v false (.int .i64 s3), .v false (.int .i64 a3), .v false (.int .i64 j3), .v false (.int .i64 y3), .v false (.int .i64 h3), .v false (.bool xy), .v false (.int .i64 tk)], .ag [.v false (.int .i64 a), .v false (.int .i64 b), .v false (.int .i64 c), .v false (.int .i64 d)], .ag [.v false (.int .i64 p), .v false (.int .i64 q), .v false (.int .i64 u), .v false (.int .i64 v)]] = .br ((bif (bif kv0 n0 d0 s0 a0 j0 y0 h0 n1 d1 s1 a1 j1 y1 h1 n2 d2 s2 a2 j2 y2 h2 n3 d3 s3 a3 j3 y3 h3 xy tk && dval a b c d && dval p q u v then juE j0 j1 j2 j3 a b c d p q u v else (0 : Int)) != bif kv0 n0 d0 s0 a0 j0 y0 h0 n1 d1 s1 a1 j1 y1 h1 n2 d2 s2 a2 j2 y2 h2 n3 d3 s3 a3 j3 y3 h3 xy tk && dval p q u v && dval a b c d then juE j0 j1 j2 j3 p q u v a b c d else (0 : Int) then true else (bif !bif kv0 n0 d0 s0 a0 j0 y0 h0 n1 d1 s1 a1 j1 y1 h1 n2 d2 s2 a2 j2 y2 h2 n3 d3 s3 a3 j3 y3 h3 xy tk then dval a b c d else false then true else ((inS a) && (bif bif ab a == dom a b c d then decide (IntKind.wrap IntKind.i64 ((2 : Int) * bif kv0 n0 d0 s0 a0 j0 y0 h0 n1 d1 s1 a1 j1 y1 h1 n2 d2 s2 a2 j2 y2 h2 n3 d3 s3 a3 j3 y3 h3 xy tk && dval a b c d && dval (IntKind.wrap IntKind.i64 ((0 : Int) - a)) (IntKind.wrap IntKind.i64 ((0 : Int) - b)) (IntKind.wrap IntKind.i64 ((0 : Int) - c)) (IntKind.wrap IntKind.i64 ((0 : Int) - d)) then juE j0 j1 j2 j3 a b c d (IntKind.wrap IntKind.i64 ((0 : Int) - a)) (IntKind.wrap IntKind.i64 ((0 : Int) - b)) (IntKind.wrap IntKind.i64 ((0 : Int) - c)) (IntKind.wrap IntKind.i64 ((0 : Int) - d)) else (0 : Int)) > j0) else false then true else ((inS b) && (bif bif ab b == dom a b c d then decide (IntKind.wrap IntKind.i64 ((2 : Int) * bif kv0 n0 d0 s0 a0 j0 y0 h0 n1 d1 s1 a1 j1 y1 h1 n2 d2 s2 a2 j2 y2 h2 n3 d3 s3 a3 j3 y3 h3 xy tk && dval a b c d && dval (IntKind.wrap IntKind.i64 ((0 : Int) - a)) (IntKind.wrap IntKind.i64 ((0 : Int) - b)) (IntKind.wrap IntKind.i64 ((0 : Int) - c)) (IntKind.wrap IntKind.i64 ((0 : Int) - d)) then juE j0 j1 j2 j3 a b c d (IntKind.wrap IntKind.i64 ((0 : Int) - a)) (IntKind.wrap IntKind.i64 ((0 : Int) - b)) (IntKind.wrap IntKind.i64 ((0 : Int) - c)) (IntKind.wrap IntKind.i64 ((0 : Int) - d)) else (0 : Int)) > j1) else false then true else ((inS c) && (bif bif ab c == dom a b c d then decide (IntKind.wrap IntKind.i64 ((2 : Int) * bif kv0 n0 d0 s0 a0 j0 y0 h0 n1 d1 s1 a1 j1 y1 h1 n2 d2 s2 a2 j2 y2 h2 n3 d3 s3 a3 j3 y3 h3 xy tk && dval a b c d && dval (IntKind.wrap IntKind.i64 ((0 : Int) - a)) (IntKind.wrap IntKind.i64 ((0 : Int) - b)) (IntKind.wrap IntKind.i64 ((0 : Int) - c)) (IntKind.wrap IntKind.i64 ((0 : Int) - d)) then juE j0 j1 j2 j3 a b c d (IntKind.wrap IntKind.i64 ((0 : Int) - a)) (IntKind.wrap IntKind.i64 ((0 : Int) - b)) (IntKind.wrap IntKind.i64 ((0 : Int) - c)) (IntKind.wrap IntKind.i64 ((0 : Int) - d)) else (0 : Int)) > j2) else false then true else (inS d)))))))))) (.ret (.one (.v false (.bool (bif (bif kv0 n0 d0 s0 a0 j0 y0 h0 n1 d1 s1 a1 j1 y1 h1 n2 d2 s2 a2 j2 y2 h2 n3 d3 s3 a3 j3 y3 h3 xy tk && dval a b c d && dval p q u v then juE j0 j1 j2 j3 a b c d p q u v else (0 : Int)) != bif kv0 n0 d0 s0 a0 j0 y0 h0 n1 d1 s1 a1 j1 y1 h1 n2 d2 s2 a2 j2 y2 h2 n3 d3 s3 a3 j3 y3 h3 xy tk && dval p q u v && dval a b c d then juE j0 j1 j2 j3 p q u v a b c d else (0 : Int) then false else bif !bif kv0 n0 d0 s0 a0 j0 y0 h0 n1 d1 s1 a1 j1 y1 h1 n2 d2 s2 a2 j2 y2 h2 n3 d3 s3 a3 j3 y3 h3 xy tk then dval a b c d else false then bif (bif kv0 n0 d0 s0 a0 j0 y0 h0 n1 d1 s1 a1 j1 y1 h1 n2 d2 s2 a2 j2 y2 h2 n3 d3 s3 a3 j3 y3 h3 xy tk && dval a b c d && dval p q u v then juE j0 j1 j2 j3 a b c d p q u v else (0 : Int)) == (0 : Int) then true else false else bif bif ab a == dom a b c d then decide (IntKind.wrap IntKind.i64 ((2 : Int) * bif kv0 n0 d0 s0 a0 j0 y0 h0 n1 d1 s1 a1 j1 y1 h1 n2 d2 s2 a2 j2 y2 h2 n3 d3 s3 a3 j3 y3 h3 xy tk && dval a b c d && dval (IntKind.wrap IntKind.i64 ((0 : Int) - a)) (IntKind.wrap IntKind.i64 ((0 : Int) - b)) (IntKind.wrap IntKind.i64 ((0 : Int) - c)) (IntKind.wrap IntKind.i64 ((0 : Int) - d)) then juE j0 j1 j2 j3 a b c d (IntKind.wrap IntKind.i64 ((0 : Int) - a)) (IntKind.wrap IntKind.i64 ((0 : Int) - b)) (IntKind.wrap IntKind.i64 ((0 : Int) - c)) (IntKind.wrap IntKind.i64 ((0 : Int) - d)) else (0 : Int)) > j0) else false then false else bif bif ab b == dom a b c d then decide (IntKind.wrap IntKind.i64 ((2 : Int) * bif kv0 n0 d0 s0 a0 j0 y0 h0 n1 d1 s1 a1 j1 y1 h1 n2 d2 s2 a2 j2 y2 h2 n3 d3 s3 a3 j3 y3 h3 xy tk && dval a b c d && dval (IntKind.wrap IntKind.i64 ((0 : Int) - a)) (IntKind.wrap IntKind.i64 ((0 : Int) - b)) (IntKind.wrap IntKind.i64 ((0 : Int) - c)) (IntKind.wrap IntKind.i64 ((0 : Int) - d)) then juE j0 j1 j2 j3 a b c d (IntKind.wrap IntKind.i64 ((0 : Int) - a)) (IntKind.wrap IntKind.i64 ((0 : Int) - b)) (IntKind.wrap IntKind.i64 ((0 : Int) - c)) (IntKind.wrap IntKind.i64 ((0 : Int) - d)) else (0 : Int)) > j1) else false then false else bif bif ab c == dom a b c d then decide (IntKind.wrap IntKind.i64 ((2 : Int) * bif kv0 n0 d0 s0 a0 j0 y0 h0 n1 d1 s1 a1 j1 y1 h1 n2 d2 s2 a2 j2 y2 h2 n3 d3 s3 a3 j3 y3 h3 xy tk && dval a b c d && dval (IntKind.wrap IntKind.i64 ((0 : Int) - a)) (IntKind.wrap IntKind.i64 ((0 : Int) - b)) (IntKind.wrap IntKind.i64 ((0 : Int) - c)) (IntKind.wrap IntKind.i64 ((0 : Int) - d)) then juE j0 j1 j2 j3 a b c d (IntKind.wrap IntKind.i64 ((0 : Int) - a)) (IntKind.wrap IntKind.i64 ((0 : Int) - b)) (IntKind.wrap IntKind.i64 ((0 : Int) - c)) (IntKind.wrap IntKind.i64 ((0 : Int) - d)) else (0 : Int)) > j2) else false then false else bif bif ab d == dom a b c d then decide (IntKind.wrap IntKind.i64 ((2 : Int) * bif kv0 n0 d0 s0 a0 j0 y0 h0 n1 d1 s1 a1 j1 y1 h1 n2 d2 s2 a2 j2 y2 h2 n3 d3 s3 a3 j3 y3 h3 xy tk && dval a b c d && dval (IntKind.wrap IntKind.i64 ((0 : Int) - a)) (IntKind.wrap IntKind.i64 ((0 : Int) - b)) (IntKind.wrap IntKind.i64 ((0 : Int) - c)) (IntKind.wrap IntKind.i64 ((0 : Int) - d)) then juE j0 j1 j2 j3 a b c d (IntKind.wrap IntKind.i64 ((0 : Int) - a)) (IntKind.wrap IntKind.i64 ((0 : Int) - b)) (IntKind.wrap IntKind.i64 ((0 : Int) - c)) (IntKind.wrap IntKind.i64 ((0 : Int) - d)) else (0 : Int)) > j3) else false then false else bif (bif kv0 n0 d0 s0 a0 j0 y0 h0 n1 d1 s1 a1 j1 y1 h1 n2 d2 s2 a2 j2 y2 h2 n3 d3 s3 a3 j3 y3 h3 xy tk && dval a b c d && dval a b c d then juE j0 j1 j2 j3 a b c d a b c d else (0 : Int)) == (1048576 : Int) then true else false))))) (.bad 116) := by kernel_rfl
set_option maxHeartbeats 4000000 in
theorem law_LimitsTurn_all (n0 : Int) (d0 : Int) (s0 : Int) (a0 : Int) (j0 : Int) (y0 : Int) (h0 : Int) (n1 : Int) (d1 : Int) (s1 : Int) (a1 : Int) (j1 : Int) (y1 : Int) (h1 : Int) (n2 : Int) (d2 : Int) (s2 : Int) (a2 : Int) (j2 : Int) (y2 : Int) (h2 : Int) (n3 : Int) (d3 : Int) (s3 : Int) (a3 : Int) (j3 : Int) (y3 : Int) (h3 : Int) (xy : Bool) (tk : Int) (a : Int) (b : Int) (c : Int) (d : Int) (p : Int) (q : Int) (u : Int) (v : Int) (r0 : Ty.InR (.prod (.prod (.prod (.int .i64) (.prod (.int .i64) (.prod (.int .i64) (.prod (.int .i64) (.prod (.int .i64) (.prod (.int .i64) (.int .i64))))))) (.prod (.prod (.int .i64) (.prod (.int .i64) (.prod (.int .i64) (.prod (.int .i64) (.prod (.int .i64) (.prod (.int .i64) (.int .i64))))))) (.prod (.prod (.int .i64) (.prod (.int .i64) (.prod (.int .i64) (.prod (.int .i64) (.prod (.int .i64) (.prod (.int .i64) (.int .i64))))))) (.prod (.int .i64) (.prod (.int .i64) (.prod (.int .i64) (.prod (.int .i64) (.prod (.int .i64) (.prod (.int .i64) (.int .i64)))))))))) (.prod .bool (.int .i64))) (((n0, (d0, (s0, (a0, (j0, (y0, h0)))))), ((n1, (d1, (s1, (a1, (j1, (y1, h1)))))), ((n2, (d2, (s2, (a2, (j2, (y2, h2)))))), (n3, (d3, (s3, (a3, (j3, (y3, h3))))))))), (xy, tk))) (r1 : Ty.InR (.prod (.int .i64) (.prod (.int .i64) (.prod (.int .i64) (.int .i64)))) (a, (b, (c, d)))) (r2 : Ty.InR (.prod (.int .i64) (.prod (.int .i64) (.prod (.int .i64) (.int .i64)))) (p, (q, (u, v))))  : Tr.all (fun r => ∃ kn, r = AV.one (.v kn (.bool true))) (.br ((bif (bif kv0 n0 d0 s0 a0 j0 y0 h0 n1 d1 s1 a1 j1 y1 h1 n2 d2 s2 a2 j2 y2 h2 n3 d3 s3 a3 j3 y3 h3 xy tk && dval a b c d && dval p q u v then juE j0 j1 j2 j3 a b c d p q u v else (0 : Int)) != bif kv0 n0 d0 s0 a0 j0 y0 h0 n1 d1 s1 a1 j1 y1 h1 n2 d2 s2 a2 j2 y2 h2 n3 d3 s3 a3 j3 y3 h3 xy tk && dval p q u v && dval a b c d then juE j0 j1 j2 j3 p q u v a b c d else (0 : Int) then true else (bif !bif kv0 n0 d0 s0 a0 j0 y0 h0 n1 d1 s1 a1 j1 y1 h1 n2 d2 s2 a2 j2 y2 h2 n3 d3 s3 a3 j3 y3 h3 xy tk then dval a b c d else false then true else ((inS a) && (bif bif ab a == dom a b c d then decide (IntKind.wrap IntKind.i64 ((2 : Int) * bif kv0 n0 d0 s0 a0 j0 y0 h0 n1 d1 s1 a1 j1 y1 h1 n2 d2 s2 a2 j2 y2 h2 n3 d3 s3 a3 j3 y3 h3 xy tk && dval a b c d && dval (IntKind.wrap IntKind.i64 ((0 : Int) - a)) (IntKind.wrap IntKind.i64 ((0 : Int) - b)) (IntKind.wrap IntKind.i64 ((0 : Int) - c)) (IntKind.wrap IntKind.i64 ((0 : Int) - d)) then juE j0 j1 j2 j3 a b c d (IntKind.wrap IntKind.i64 ((0 : Int) - a)) (IntKind.wrap IntKind.i64 ((0 : Int) - b)) (IntKind.wrap IntKind.i64 ((0 : Int) - c)) (IntKind.wrap IntKind.i64 ((0 : Int) - d)) else (0 : Int)) > j0) else false then true else ((inS b) && (bif bif ab b == dom a b c d then decide (IntKind.wrap IntKind.i64 ((2 : Int) * bif kv0 n0 d0 s0 a0 j0 y0 h0 n1 d1 s1 a1 j1 y1 h1 n2 d2 s2 a2 j2 y2 h2 n3 d3 s3 a3 j3 y3 h3 xy tk && dval a b c d && dval (IntKind.wrap IntKind.i64 ((0 : Int) - a)) (IntKind.wrap IntKind.i64 ((0 : Int) - b)) (IntKind.wrap IntKind.i64 ((0 : Int) - c)) (IntKind.wrap IntKind.i64 ((0 : Int) - d)) then juE j0 j1 j2 j3 a b c d (IntKind.wrap IntKind.i64 ((0 : Int) - a)) (IntKind.wrap IntKind.i64 ((0 : Int) - b)) (IntKind.wrap IntKind.i64 ((0 : Int) - c)) (IntKind.wrap IntKind.i64 ((0 : Int) - d)) else (0 : Int)) > j1) else false then true else ((inS c) && (bif bif ab c == dom a b c d then decide (IntKind.wrap IntKind.i64 ((2 : Int) * bif kv0 n0 d0 s0 a0 j0 y0 h0 n1 d1 s1 a1 j1 y1 h1 n2 d2 s2 a2 j2 y2 h2 n3 d3 s3 a3 j3 y3 h3 xy tk && dval a b c d && dval (IntKind.wrap IntKind.i64 ((0 : Int) - a)) (IntKind.wrap IntKind.i64 ((0 : Int) - b)) (IntKind.wrap IntKind.i64 ((0 : Int) - c)) (IntKind.wrap IntKind.i64 ((0 : Int) - d)) then juE j0 j1 j2 j3 a b c d (IntKind.wrap IntKind.i64 ((0 : Int) - a)) (IntKind.wrap IntKind.i64 ((0 : Int) - b)) (IntKind.wrap IntKind.i64 ((0 : Int) - c)) (IntKind.wrap IntKind.i64 ((0 : Int) - d)) else (0 : Int)) > j2) else false then true else (inS d)))))))))) (.ret (.one (.v false (.bool (bif (bif kv0 n0 d0 s0 a0 j0 y0 h0 n1 d1 s1 a1 j1 y1 h1 n2 d2 s2 a2 j2 y2 h2 n3 d3 s3 a3 j3 y3 h3 xy tk && dval a b c d && dval p q u v then juE j0 j1 j2 j3 a b c d p q u v else (0 : Int)) != bif kv0 n0 d0 s0 a0 j0 y0 h0 n1 d1 s1 a1 j1 y1 h1 n2 d2 s2 a2 j2 y2 h2 n3 d3 s3 a3 j3 y3 h3 xy tk && dval p q u v && dval a b c d then juE j0 j1 j2 j3 p q u v a b c d else (0 : Int) then false else bif !bif kv0 n0 d0 s0 a0 j0 y0 h0 n1 d1 s1 a1 j1 y1 h1 n2 d2 s2 a2 j2 y2 h2 n3 d3 s3 a3 j3 y3 h3 xy tk then dval a b c d else false then bif (bif kv0 n0 d0 s0 a0 j0 y0 h0 n1 d1 s1 a1 j1 y1 h1 n2 d2 s2 a2 j2 y2 h2 n3 d3 s3 a3 j3 y3 h3 xy tk && dval a b c d && dval p q u v then juE j0 j1 j2 j3 a b c d p q u v else (0 : Int)) == (0 : Int) then true else false else bif bif ab a == dom a b c d then decide (IntKind.wrap IntKind.i64 ((2 : Int) * bif kv0 n0 d0 s0 a0 j0 y0 h0 n1 d1 s1 a1 j1 y1 h1 n2 d2 s2 a2 j2 y2 h2 n3 d3 s3 a3 j3 y3 h3 xy tk && dval a b c d && dval (IntKind.wrap IntKind.i64 ((0 : Int) - a)) (IntKind.wrap IntKind.i64 ((0 : Int) - b)) (IntKind.wrap IntKind.i64 ((0 : Int) - c)) (IntKind.wrap IntKind.i64 ((0 : Int) - d)) then juE j0 j1 j2 j3 a b c d (IntKind.wrap IntKind.i64 ((0 : Int) - a)) (IntKind.wrap IntKind.i64 ((0 : Int) - b)) (IntKind.wrap IntKind.i64 ((0 : Int) - c)) (IntKind.wrap IntKind.i64 ((0 : Int) - d)) else (0 : Int)) > j0) else false then false else bif bif ab b == dom a b c d then decide (IntKind.wrap IntKind.i64 ((2 : Int) * bif kv0 n0 d0 s0 a0 j0 y0 h0 n1 d1 s1 a1 j1 y1 h1 n2 d2 s2 a2 j2 y2 h2 n3 d3 s3 a3 j3 y3 h3 xy tk && dval a b c d && dval (IntKind.wrap IntKind.i64 ((0 : Int) - a)) (IntKind.wrap IntKind.i64 ((0 : Int) - b)) (IntKind.wrap IntKind.i64 ((0 : Int) - c)) (IntKind.wrap IntKind.i64 ((0 : Int) - d)) then juE j0 j1 j2 j3 a b c d (IntKind.wrap IntKind.i64 ((0 : Int) - a)) (IntKind.wrap IntKind.i64 ((0 : Int) - b)) (IntKind.wrap IntKind.i64 ((0 : Int) - c)) (IntKind.wrap IntKind.i64 ((0 : Int) - d)) else (0 : Int)) > j1) else false then false else bif bif ab c == dom a b c d then decide (IntKind.wrap IntKind.i64 ((2 : Int) * bif kv0 n0 d0 s0 a0 j0 y0 h0 n1 d1 s1 a1 j1 y1 h1 n2 d2 s2 a2 j2 y2 h2 n3 d3 s3 a3 j3 y3 h3 xy tk && dval a b c d && dval (IntKind.wrap IntKind.i64 ((0 : Int) - a)) (IntKind.wrap IntKind.i64 ((0 : Int) - b)) (IntKind.wrap IntKind.i64 ((0 : Int) - c)) (IntKind.wrap IntKind.i64 ((0 : Int) - d)) then juE j0 j1 j2 j3 a b c d (IntKind.wrap IntKind.i64 ((0 : Int) - a)) (IntKind.wrap IntKind.i64 ((0 : Int) - b)) (IntKind.wrap IntKind.i64 ((0 : Int) - c)) (IntKind.wrap IntKind.i64 ((0 : Int) - d)) else (0 : Int)) > j2) else false then false else bif bif ab d == dom a b c d then decide (IntKind.wrap IntKind.i64 ((2 : Int) * bif kv0 n0 d0 s0 a0 j0 y0 h0 n1 d1 s1 a1 j1 y1 h1 n2 d2 s2 a2 j2 y2 h2 n3 d3 s3 a3 j3 y3 h3 xy tk && dval a b c d && dval (IntKind.wrap IntKind.i64 ((0 : Int) - a)) (IntKind.wrap IntKind.i64 ((0 : Int) - b)) (IntKind.wrap IntKind.i64 ((0 : Int) - c)) (IntKind.wrap IntKind.i64 ((0 : Int) - d)) then juE j0 j1 j2 j3 a b c d (IntKind.wrap IntKind.i64 ((0 : Int) - a)) (IntKind.wrap IntKind.i64 ((0 : Int) - b)) (IntKind.wrap IntKind.i64 ((0 : Int) - c)) (IntKind.wrap IntKind.i64 ((0 : Int) - d)) else (0 : Int)) > j3) else false then false else bif (bif kv0 n0 d0 s0 a0 j0 y0 h0 n1 d1 s1 a1 j1 y1 h1 n2 d2 s2 a2 j2 y2 h2 n3 d3 s3 a3 j3 y3 h3 xy tk && dval a b c d && dval a b c d then juE j0 j1 j2 j3 a b c d a b c d else (0 : Int)) == (1048576 : Int) then true else false))))) (.bad 116)) := by
  cases hk : kv0 n0 d0 s0 a0 j0 y0 h0 n1 d1 s1 a1 j1 y1 h1 n2 d2 s2 a2 j2 y2 h2 n3 d3 s3 a3 j3 y3 h3 xy tk
  · simp only [Bool.false_and, cond_false, Bool.not_false]
    exact ⟨fun _ => ⟨_, rfl⟩, fun h => by cases h⟩
  · cases hd : dval a b c d
    · simp only [Bool.true_and, Bool.false_and, Bool.and_false, cond_false, cond_true, Bool.not_false]
      exact ⟨fun _ => ⟨_, rfl⟩, fun h => by cases h⟩
    · obtain ⟨e0, e1, e2, e3, _⟩ := dv_iff.1 hd
      obtain ⟨_, _, ⟨_, _, _, _, _, _, _, _⟩⟩ := kv_spec hk
      have sa : inS a = true := inS_of (by omega) (by omega)
      have sb : inS b = true := inS_of (by omega) (by omega)
      have sc : inS c = true := inS_of (by omega) (by omega)
      have sd : inS d = true := inS_of (by omega) (by omega)
      obtain ⟨T0, T1, T2, T3⟩ := ju_turn (j0 := j0) (j1 := j1) (j2 := j2) (j3 := j3) hd (by omega) (by omega) (by omega) (by omega)
      have B := ju_bd (j0 := j0) (j1 := j1) (j2 := j2) (j3 := j3) (a := a) (b := b) (c := c) (d := d) (p := 0 - a) (q := 0 - b) (u := 0 - c) (v := 0 - d) (by omega) (by omega) (by omega) (by omega)
      have w : IntKind.wrap IntKind.i64 ((2 : Int) * juE j0 j1 j2 j3 a b c d (0 - a) (0 - b) (0 - c) (0 - d)) = 2 * juE j0 j1 j2 j3 a b c d (0 - a) (0 - b) (0 - c) (0 - d) := IntWalk.i64_in _ ⟨by omega, by omega⟩
      have hs := ju_sym j0 j1 j2 j3 p q u v a b c d
      simp only [neg_w e0, neg_w e1, neg_w e2, neg_w e3, dv_neg, hd, Bool.true_and, Bool.and_true, cond_true, w, hs, bne_self_eq_false, cond_false, Bool.not_true, sa, sb, sc, sd, no_jump T0, no_jump T1, no_jump T2, no_jump T3, ju_same]
      exact ⟨fun _ => ⟨_, rfl⟩, fun h => by cases h⟩
set_option maxHeartbeats 4000000 in
theorem law_LimitsTurn (v0 : Value) (x0 : ((.prod (.prod (.prod (.int .i64) (.prod (.int .i64) (.prod (.int .i64) (.prod (.int .i64) (.prod (.int .i64) (.prod (.int .i64) (.int .i64))))))) (.prod (.prod (.int .i64) (.prod (.int .i64) (.prod (.int .i64) (.prod (.int .i64) (.prod (.int .i64) (.prod (.int .i64) (.int .i64))))))) (.prod (.prod (.int .i64) (.prod (.int .i64) (.prod (.int .i64) (.prod (.int .i64) (.prod (.int .i64) (.prod (.int .i64) (.int .i64))))))) (.prod (.int .i64) (.prod (.int .i64) (.prod (.int .i64) (.prod (.int .i64) (.prod (.int .i64) (.prod (.int .i64) (.int .i64)))))))))) (.prod .bool (.int .i64))) : Ty).den) (r0 : Ty.InR (.prod (.prod (.prod (.int .i64) (.prod (.int .i64) (.prod (.int .i64) (.prod (.int .i64) (.prod (.int .i64) (.prod (.int .i64) (.int .i64))))))) (.prod (.prod (.int .i64) (.prod (.int .i64) (.prod (.int .i64) (.prod (.int .i64) (.prod (.int .i64) (.prod (.int .i64) (.int .i64))))))) (.prod (.prod (.int .i64) (.prod (.int .i64) (.prod (.int .i64) (.prod (.int .i64) (.prod (.int .i64) (.prod (.int .i64) (.int .i64))))))) (.prod (.int .i64) (.prod (.int .i64) (.prod (.int .i64) (.prod (.int .i64) (.prod (.int .i64) (.prod (.int .i64) (.int .i64)))))))))) (.prod .bool (.int .i64))) x0) (v1 : Value) (x1 : ((.prod (.int .i64) (.prod (.int .i64) (.prod (.int .i64) (.int .i64)))) : Ty).den) (r1 : Ty.InR (.prod (.int .i64) (.prod (.int .i64) (.prod (.int .i64) (.int .i64)))) x1) (v2 : Value) (x2 : ((.prod (.int .i64) (.prod (.int .i64) (.prod (.int .i64) (.int .i64)))) : Ty).den) (r2 : Ty.InR (.prod (.int .i64) (.prod (.int .i64) (.prod (.int .i64) (.int .i64)))) x2) (z_w : World) (i0 : (AV.ag (Ty.cells false (.prod (.prod (.prod (.int .i64) (.prod (.int .i64) (.prod (.int .i64) (.prod (.int .i64) (.prod (.int .i64) (.prod (.int .i64) (.int .i64))))))) (.prod (.prod (.int .i64) (.prod (.int .i64) (.prod (.int .i64) (.prod (.int .i64) (.prod (.int .i64) (.prod (.int .i64) (.int .i64))))))) (.prod (.prod (.int .i64) (.prod (.int .i64) (.prod (.int .i64) (.prod (.int .i64) (.prod (.int .i64) (.prod (.int .i64) (.int .i64))))))) (.prod (.int .i64) (.prod (.int .i64) (.prod (.int .i64) (.prod (.int .i64) (.prod (.int .i64) (.prod (.int .i64) (.int .i64)))))))))) (.prod .bool (.int .i64))) x0)).is [] (fun _ => none) (fun b => b < z_w.heap.size) z_w v0) (i1 : (AV.ag (Ty.cells false (.prod (.int .i64) (.prod (.int .i64) (.prod (.int .i64) (.int .i64)))) x1)).is [] (fun _ => none) (fun b => b < z_w.heap.size) z_w v1) (i2 : (AV.ag (Ty.cells false (.prod (.int .i64) (.prod (.int .i64) (.prod (.int .i64) (.int .i64)))) x2)).is [] (fun _ => none) (fun b => b < z_w.heap.size) z_w v2) : Calls Try.prog 7 #[v0, v1, v2] z_w fun e w' => e = .returned (.bool true) ∧ Ext z_w w' := by
  obtain ⟨⟨⟨n0, ⟨d0, ⟨s0, ⟨a0, ⟨j0, ⟨y0, h0⟩⟩⟩⟩⟩⟩, ⟨⟨n1, ⟨d1, ⟨s1, ⟨a1, ⟨j1, ⟨y1, h1⟩⟩⟩⟩⟩⟩, ⟨⟨n2, ⟨d2, ⟨s2, ⟨a2, ⟨j2, ⟨y2, h2⟩⟩⟩⟩⟩⟩, ⟨n3, ⟨d3, ⟨s3, ⟨a3, ⟨j3, ⟨y3, h3⟩⟩⟩⟩⟩⟩⟩⟩⟩, ⟨xy, tk⟩⟩ := x0
  obtain ⟨a, ⟨b, ⟨c, d⟩⟩⟩ := x1
  obtain ⟨p, ⟨q, ⟨u, v⟩⟩⟩ := x2
  refine law_of_tree (by kernel_rfl) (lmE_S81_ok) (L0_ok _) (law_LimitsTurn_tree n0 d0 s0 a0 j0 y0 h0 n1 d1 s1 a1 j1 y1 h1 n2 d2 s2 a2 j2 y2 h2 n3 d3 s3 a3 j3 y3 h3 xy tk a b c d p q u v) (law_LimitsTurn_all n0 d0 s0 a0 j0 y0 h0 n1 d1 s1 a1 j1 y1 h1 n2 d2 s2 a2 j2 y2 h2 n3 d3 s3 a3 j3 y3 h3 xy tk a b c d p q u v r0 r1 r2 ) rfl z_w _ _ (fun _ h => h) ⟨_, _, rfl, i0, ⟨_, _, rfl, i1, ⟨_, _, rfl, i2, rfl⟩⟩⟩
end Go.Proofs.Ytnmjikaojoaaaaa
