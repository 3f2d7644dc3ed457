/-
  Layer 43: LimitsScale.
-/
import Derived.Test.YtnmjikaojoaaaaaProg
import Derived.Test.YtnmjikaojoaaaaaFvX
import Derived.Test.YtnmjikaojoaaaaaFvZ
import Derived.Test.YtnmjikaojoaaaaaAut
import Derived.Test.YtnmjikaojoaaaaaLmA
import Derived.Test.YtnmjikaojoaaaaaLmB
import Derived.Test.YtnmjikaojoaaaaaLmC
import Derived.Test.YtnmjikaojoaaaaaLmD
namespace Go.Proofs.Ytnmjikaojoaaaaa
open Go
def lmF_S81 : Sums := addS 14 spd_g lmC_S82
theorem lmF_S81_ok : SumOK Try.prog lmF_S81 := addS_ok (spd_ok) (lmC_S82_ok)
theorem mx_mul {k : Int} (hk : 0 ≤ k) (x y : Int) : mx (x * k) (y * k) = mx x y * k := by
  unfold mx
  by_cases h : y > x
  · have := Int.mul_le_mul_of_nonneg_right (show x ≤ y by omega) hk
    rw [if_pos h]
    split <;> omega
  · have := Int.mul_le_mul_of_nonneg_right (show y ≤ x by omega) hk
    rw [if_neg h]
    split <;> omega
theorem mx_mul0 {k : Int} (hk : 0 ≤ k) (x : Int) : mx 0 (x * k) = mx 0 x * k := by
  have := mx_mul hk 0 x
  rwa [Int.zero_mul] at this
theorem dom_mul {a b c d k : Int} (hk : 0 ≤ k) (h : dval a b c d = true) (g : dval (a * k) (b * k) (c * k) (d * k) = true) : dom (a * k) (b * k) (c * k) (d * k) = dom a b c d * k := by
  have z : ∀ x : Int, 0 - x * k = (0 - x) * k := fun x => by grind
  unfold dom
  rw [if_pos h, if_pos g]
  simp only [z, mx_mul0 hk, mx_mul hk]
theorem ab_mul {k : Int} (hk : 0 < k) (x : Int) : ab (x * k) = ab x * k := by
  unfold ab
  by_cases h : x < 0
  · have : x * k < 0 := Int.mul_neg_of_neg_of_pos h hk
    rw [if_pos h, if_pos this]; grind
  · have : 0 ≤ x * k := Int.mul_nonneg (by omega) (by omega)
    rw [if_neg h, if_neg (by omega)]
theorem ab_nn (x : Int) : 0 ≤ ab x := by unfold ab; split <;> omega
theorem lea_scale {n x y c x' y' c' t : Int} (ht : 0 < t) (hc : 0 ≤ c) (h1 : x' * y' = x * y * t) (h2 : c' = c * t) : lea n x' y' c' = lea n x y c := by
  have : quo (x' * y') c' = quo (x * y) c := by
    rw [h1, h2]
    by_cases e : c = 0
    · subst e; rw [Int.zero_mul]; rfl
    · have p : 0 < c * t := Int.mul_pos (by omega) ht
      unfold quo fl
      rw [if_neg (by omega), if_neg e, if_pos p, if_pos (by omega), Int.mul_ediv_mul_of_pos_left _ _ ht]
  unfold lea
  rw [this]
theorem sp_scale {s0 s1 s2 s3 a b c d k : Int} (hk : 0 < k) (h : dval a b c d = true) (g : dval (a * k) (b * k) (c * k) (d * k) = true) : spE s0 s1 s2 s3 (a * k) (b * k) (c * k) (d * k) = spE s0 s1 s2 s3 a b c d := by
  unfold spE
  rw [dom_mul (by omega) h g]
  have L : ∀ n s x, lea n s (dom a b c d * k) (ab (x * k)) = lea n s (dom a b c d) (ab x) := fun n s x => lea_scale hk (ab_nn x) (by grind) (ab_mul hk x)
  simp only [L]
theorem ac_scale {s0 s1 s2 s3 a b c d k : Int} (hk : 0 < k) (h : dval a b c d = true) (g : dval (a * k) (b * k) (c * k) (d * k) = true) : acE s0 s1 s2 s3 (a * k) (b * k) (c * k) (d * k) = acE s0 s1 s2 s3 a b c d := by
  unfold acE
  rw [dom_mul (by omega) h g]
  have L : ∀ n s x, lea n s (dom a b c d * k) (ab (x * k)) = lea n s (dom a b c d) (ab x) := fun n s x => lea_scale hk (ab_nn x) (by grind) (ab_mul hk x)
  simp only [L]
theorem ju_scale1 {s0 s1 s2 s3 a b c d p q u v k : Int} (hk : 0 < k) (h : dval a b c d = true) (g : dval (a * k) (b * k) (c * k) (d * k) = true) : juE s0 s1 s2 s3 (a * k) (b * k) (c * k) (d * k) p q u v = juE s0 s1 s2 s3 a b c d p q u v := by
  unfold juE
  rw [dom_mul (by omega) h g]
  generalize dom a b c d = n
  generalize dom p q u v = o
  have L : ∀ m s x y, lea m (s * (n * k)) o (ab (x * k * o - y * (n * k))) = lea m (s * n) o (ab (x * o - y * n)) := fun m s x y => lea_scale hk (ab_nn _) (by grind) (by rw [← ab_mul hk]; congr 1; grind)
  simp only [L]
theorem ju_scale2 {s0 s1 s2 s3 a b c d p q u v k : Int} (hk : 0 < k) (h : dval p q u v = true) (g : dval (p * k) (q * k) (u * k) (v * k) = true) : juE s0 s1 s2 s3 a b c d (p * k) (q * k) (u * k) (v * k) = juE s0 s1 s2 s3 a b c d p q u v := by
  unfold juE
  rw [dom_mul (by omega) h g]
  generalize dom a b c d = n
  generalize dom p q u v = o
  have L : ∀ m s x y, lea m (s * n) (o * k) (ab (x * (o * k) - y * k * n)) = lea m (s * n) o (ab (x * o - y * n)) := fun m s x y => lea_scale hk (ab_nn _) (by grind) (by rw [← ab_mul hk]; congr 1; grind)
  simp only [L]
theorem spv0 (s0 s1 s2 s3 a b c d : Int) : spV s0 s1 s2 s3 a b c d 0 0 = spE s0 s1 s2 s3 a b c d := by unfold spV; rfl
set_option maxRecDepth 100000 in
theorem law_LimitsScale_tree (n0 : Int) (d0 : Int) (s0 : Int) (a0 : Int) (j0 : Int) (y0 : Int) (h0 : Int) (n1 : Int) (d1 : Int) (s1 : Int) (a1 : Int) (j1 : Int) (y1 : Int) (h1 : Int) (n2 : Int) (d2 : Int) (s2 : Int) (a2 : Int) (j2 : Int) (y2 : Int) (h2 : Int) (n3 : Int) (d3 : Int) (s3 : Int) (a3 : Int) (j3 : Int) (y3 : Int) (h3 : Int) (xy : Bool) (tk : Int) (a : Int) (b : Int) (c : Int) (d : Int) (p : Int) (q : Int) (u : Int) (v : Int) (k : Int) : evalF Try.prog lmF_S81 (opens []) L0 9 6 [.ag [.v false (.int .i64 n0), .v false (.int .i64 d0), .v false (.int .i64 s0), .v false (.int .i64 a0), .v false (.int .i64 j0), .v false (.int .i64 y0), .v false (.int .i64 h0), .v false (.int .i64 n1), .v false (.int .i64 d1), .v false (.int .i64 s1), .v false (.int .i64 a1), .v false (.int .i64 j1), .v false (.int .i64 y1), .v false (.int .i64 h1), .v false (.int .i64 n2), .v false (.int .i64 d2), .v false (.int .i64 s2), .v false (.int .i64 a2), .v false (.int .i64 j2), .v false (.int .i64 y2), .v false (.int .i64 h2), .v false (.int .i64 n3), .v false (.int .i64 d3), .v false (.int .i64 s3), .v false (.int .i64 a3), .v false (.int .i64 j3), .v false (.int .i64 y3), .v false (.int .i64 h3), .v false (.bool xy), .v false (.int .i64 tk)], .ag [.v false (.int .i64 a), .v false (.int .i64 b), .v false (.int .i64 c), .v false (.int .i64 d)], .ag [.v false (.int .i64 p), .v false (.int .i64 q), .v false (.int .i64 u), .v false (.int .i64 v)], .one (.v false (.int .i64 k))] = .br ((bif bif bif bif !bif kv0 n0 d0 s0 a0 j0 y0 h0 n1 d1 s1 a1 j1 y1 h1 n2 d2 s2 a2 j2 y2 h2 n3 d3 s3 a3 j3 y3 h3 xy tk then dval a b c d else false then true else !bif kv0 n0 d0 s0 a0 j0 y0 h0 n1 d1 s1 a1 j1 y1 h1 n2 d2 s2 a2 j2 y2 h2 n3 d3 s3 a3 j3 y3 h3 xy tk then dval p q u v else false then true else decide (k < (1 : Int)) then true else decide (k > (16777216 : Int)) then true else (bif bif !bif kv0 n0 d0 s0 a0 j0 y0 h0 n1 d1 s1 a1 j1 y1 h1 n2 d2 s2 a2 j2 y2 h2 n3 d3 s3 a3 j3 y3 h3 xy tk then dval (IntKind.wrap IntKind.i64 (a * k)) (IntKind.wrap IntKind.i64 (b * k)) (IntKind.wrap IntKind.i64 (c * k)) (IntKind.wrap IntKind.i64 (d * k)) else false then true else !bif kv0 n0 d0 s0 a0 j0 y0 h0 n1 d1 s1 a1 j1 y1 h1 n2 d2 s2 a2 j2 y2 h2 n3 d3 s3 a3 j3 y3 h3 xy tk then dval (IntKind.wrap IntKind.i64 (p * k)) (IntKind.wrap IntKind.i64 (q * k)) (IntKind.wrap IntKind.i64 (u * k)) (IntKind.wrap IntKind.i64 (v * k)) else false then true else ((bif (bif kv0 n0 d0 s0 a0 j0 y0 h0 n1 d1 s1 a1 j1 y1 h1 n2 d2 s2 a2 j2 y2 h2 n3 d3 s3 a3 j3 y3 h3 xy tk && dval (IntKind.wrap IntKind.i64 (a * k)) (IntKind.wrap IntKind.i64 (b * k)) (IntKind.wrap IntKind.i64 (c * k)) (IntKind.wrap IntKind.i64 (d * k)) then acE a0 a1 a2 a3 (IntKind.wrap IntKind.i64 (a * k)) (IntKind.wrap IntKind.i64 (b * k)) (IntKind.wrap IntKind.i64 (c * k)) (IntKind.wrap IntKind.i64 (d * k)) else (0 : Int)) == bif kv0 n0 d0 s0 a0 j0 y0 h0 n1 d1 s1 a1 j1 y1 h1 n2 d2 s2 a2 j2 y2 h2 n3 d3 s3 a3 j3 y3 h3 xy tk && dval a b c d then acE a0 a1 a2 a3 a b c d else (0 : Int) then ((true) && (true)) else true))))) (.ret (.one (.v false (.bool (bif bif bif bif !bif kv0 n0 d0 s0 a0 j0 y0 h0 n1 d1 s1 a1 j1 y1 h1 n2 d2 s2 a2 j2 y2 h2 n3 d3 s3 a3 j3 y3 h3 xy tk then dval a b c d else false then true else !bif kv0 n0 d0 s0 a0 j0 y0 h0 n1 d1 s1 a1 j1 y1 h1 n2 d2 s2 a2 j2 y2 h2 n3 d3 s3 a3 j3 y3 h3 xy tk then dval p q u v else false then true else decide (k < (1 : Int)) then true else decide (k > (16777216 : Int)) then true else bif bif !bif kv0 n0 d0 s0 a0 j0 y0 h0 n1 d1 s1 a1 j1 y1 h1 n2 d2 s2 a2 j2 y2 h2 n3 d3 s3 a3 j3 y3 h3 xy tk then dval (IntKind.wrap IntKind.i64 (a * k)) (IntKind.wrap IntKind.i64 (b * k)) (IntKind.wrap IntKind.i64 (c * k)) (IntKind.wrap IntKind.i64 (d * k)) else false then true else !bif kv0 n0 d0 s0 a0 j0 y0 h0 n1 d1 s1 a1 j1 y1 h1 n2 d2 s2 a2 j2 y2 h2 n3 d3 s3 a3 j3 y3 h3 xy tk then dval (IntKind.wrap IntKind.i64 (p * k)) (IntKind.wrap IntKind.i64 (q * k)) (IntKind.wrap IntKind.i64 (u * k)) (IntKind.wrap IntKind.i64 (v * k)) else false then true else bif bif bif bif (bif kv0 n0 d0 s0 a0 j0 y0 h0 n1 d1 s1 a1 j1 y1 h1 n2 d2 s2 a2 j2 y2 h2 n3 d3 s3 a3 j3 y3 h3 xy tk && dval (IntKind.wrap IntKind.i64 (a * k)) (IntKind.wrap IntKind.i64 (b * k)) (IntKind.wrap IntKind.i64 (c * k)) (IntKind.wrap IntKind.i64 (d * k)) then acE a0 a1 a2 a3 (IntKind.wrap IntKind.i64 (a * k)) (IntKind.wrap IntKind.i64 (b * k)) (IntKind.wrap IntKind.i64 (c * k)) (IntKind.wrap IntKind.i64 (d * k)) else (0 : Int)) == bif kv0 n0 d0 s0 a0 j0 y0 h0 n1 d1 s1 a1 j1 y1 h1 n2 d2 s2 a2 j2 y2 h2 n3 d3 s3 a3 j3 y3 h3 xy tk && dval a b c d then acE a0 a1 a2 a3 a b c d else (0 : Int) then (bif kv0 n0 d0 s0 a0 j0 y0 h0 n1 d1 s1 a1 j1 y1 h1 n2 d2 s2 a2 j2 y2 h2 n3 d3 s3 a3 j3 y3 h3 xy tk && dval (IntKind.wrap IntKind.i64 (a * k)) (IntKind.wrap IntKind.i64 (b * k)) (IntKind.wrap IntKind.i64 (c * k)) (IntKind.wrap IntKind.i64 (d * k)) then spV s0 s1 s2 s3 (IntKind.wrap IntKind.i64 (a * k)) (IntKind.wrap IntKind.i64 (b * k)) (IntKind.wrap IntKind.i64 (c * k)) (IntKind.wrap IntKind.i64 (d * k)) (0 : Int) (0 : Int) else (0 : Int)) == bif kv0 n0 d0 s0 a0 j0 y0 h0 n1 d1 s1 a1 j1 y1 h1 n2 d2 s2 a2 j2 y2 h2 n3 d3 s3 a3 j3 y3 h3 xy tk && dval a b c d then spV s0 s1 s2 s3 a b c d (0 : Int) (0 : Int) else (0 : Int) else false then (bif kv0 n0 d0 s0 a0 j0 y0 h0 n1 d1 s1 a1 j1 y1 h1 n2 d2 s2 a2 j2 y2 h2 n3 d3 s3 a3 j3 y3 h3 xy tk && dval (IntKind.wrap IntKind.i64 (a * k)) (IntKind.wrap IntKind.i64 (b * k)) (IntKind.wrap IntKind.i64 (c * k)) (IntKind.wrap IntKind.i64 (d * k)) && dval (IntKind.wrap IntKind.i64 (p * k)) (IntKind.wrap IntKind.i64 (q * k)) (IntKind.wrap IntKind.i64 (u * k)) (IntKind.wrap IntKind.i64 (v * k)) then juE j0 j1 j2 j3 (IntKind.wrap IntKind.i64 (a * k)) (IntKind.wrap IntKind.i64 (b * k)) (IntKind.wrap IntKind.i64 (c * k)) (IntKind.wrap IntKind.i64 (d * k)) (IntKind.wrap IntKind.i64 (p * k)) (IntKind.wrap IntKind.i64 (q * k)) (IntKind.wrap IntKind.i64 (u * k)) (IntKind.wrap IntKind.i64 (v * k)) else (0 : Int)) == bif kv0 n0 d0 s0 a0 j0 y0 h0 n1 d1 s1 a1 j1 y1 h1 n2 d2 s2 a2 j2 y2 h2 n3 d3 s3 a3 j3 y3 h3 xy tk && dval a b c d && dval p q u v then juE j0 j1 j2 j3 a b c d p q u v else (0 : Int) else false then (bif kv0 n0 d0 s0 a0 j0 y0 h0 n1 d1 s1 a1 j1 y1 h1 n2 d2 s2 a2 j2 y2 h2 n3 d3 s3 a3 j3 y3 h3 xy tk && dval (IntKind.wrap IntKind.i64 (a * k)) (IntKind.wrap IntKind.i64 (b * k)) (IntKind.wrap IntKind.i64 (c * k)) (IntKind.wrap IntKind.i64 (d * k)) && dval p q u v then juE j0 j1 j2 j3 (IntKind.wrap IntKind.i64 (a * k)) (IntKind.wrap IntKind.i64 (b * k)) (IntKind.wrap IntKind.i64 (c * k)) (IntKind.wrap IntKind.i64 (d * k)) p q u v else (0 : Int)) == bif kv0 n0 d0 s0 a0 j0 y0 h0 n1 d1 s1 a1 j1 y1 h1 n2 d2 s2 a2 j2 y2 h2 n3 d3 s3 a3 j3 y3 h3 xy tk && dval a b c d && dval p q u v then juE j0 j1 j2 j3 a b c d p q u v else (0 : Int) else false then true else false))))) (.bad 116) := by kernel_rfl
set_option maxHeartbeats 4000000 in
theorem law_LimitsScale_all (n0 : Int) (d0 : Int) (s0 : Int) (a0 : Int) (j0 : Int) (y0 : Int) (h0 : Int) (n1 : Int) (d1 : Int) (s1 : Int) (a1 : Int) (j1 : Int) (y1 : Int) (h1 : Int) (n2 : Int) (d2 : Int) (s2 : Int) (a2 : Int) (j2 : Int) (y2 : Int) (h2 : Int) (n3 : Int) (d3 : Int) (s3 : Int) (a3 : Int) (j3 : Int) (y3 : Int) (h3 : Int) (xy : Bool) (tk : Int) (a : Int) (b : Int) (c : Int) (d : Int) (p : Int) (q : Int) (u : Int) (v : Int) (k : Int) (r0 : Ty.InR (.prod (.prod (.prod (.int .i64) (.prod (.int .i64) (.prod (.int .i64) (.prod (.int .i64) (.prod (.int .i64) (.prod (.int .i64) (.int .i64))))))) (.prod (.prod (.int .i64) (.prod (.int .i64) (.prod (.int .i64) (.prod (.int .i64) (.prod (.int .i64) (.prod (.int .i64) (.int .i64))))))) (.prod (.prod (.int .i64) (.prod (.int .i64) (.prod (.int .i64) (.prod (.int .i64) (.prod (.int .i64) (.prod (.int .i64) (.int .i64))))))) (.prod (.int .i64) (.prod (.int .i64) (.prod (.int .i64) (.prod (.int .i64) (.prod (.int .i64) (.prod (.int .i64) (.int .i64)))))))))) (.prod .bool (.int .i64))) (((n0, (d0, (s0, (a0, (j0, (y0, h0)))))), ((n1, (d1, (s1, (a1, (j1, (y1, h1)))))), ((n2, (d2, (s2, (a2, (j2, (y2, h2)))))), (n3, (d3, (s3, (a3, (j3, (y3, h3))))))))), (xy, tk))) (r1 : Ty.InR (.prod (.int .i64) (.prod (.int .i64) (.prod (.int .i64) (.int .i64)))) (a, (b, (c, d)))) (r2 : Ty.InR (.prod (.int .i64) (.prod (.int .i64) (.prod (.int .i64) (.int .i64)))) (p, (q, (u, v)))) (l3 : -9223372036854775808 ≤ k) (g3 : k ≤ 9223372036854775807) : Tr.all (fun r => ∃ kn, r = AV.one (.v kn (.bool true))) (.br ((bif bif bif bif !bif kv0 n0 d0 s0 a0 j0 y0 h0 n1 d1 s1 a1 j1 y1 h1 n2 d2 s2 a2 j2 y2 h2 n3 d3 s3 a3 j3 y3 h3 xy tk then dval a b c d else false then true else !bif kv0 n0 d0 s0 a0 j0 y0 h0 n1 d1 s1 a1 j1 y1 h1 n2 d2 s2 a2 j2 y2 h2 n3 d3 s3 a3 j3 y3 h3 xy tk then dval p q u v else false then true else decide (k < (1 : Int)) then true else decide (k > (16777216 : Int)) then true else (bif bif !bif kv0 n0 d0 s0 a0 j0 y0 h0 n1 d1 s1 a1 j1 y1 h1 n2 d2 s2 a2 j2 y2 h2 n3 d3 s3 a3 j3 y3 h3 xy tk then dval (IntKind.wrap IntKind.i64 (a * k)) (IntKind.wrap IntKind.i64 (b * k)) (IntKind.wrap IntKind.i64 (c * k)) (IntKind.wrap IntKind.i64 (d * k)) else false then true else !bif kv0 n0 d0 s0 a0 j0 y0 h0 n1 d1 s1 a1 j1 y1 h1 n2 d2 s2 a2 j2 y2 h2 n3 d3 s3 a3 j3 y3 h3 xy tk then dval (IntKind.wrap IntKind.i64 (p * k)) (IntKind.wrap IntKind.i64 (q * k)) (IntKind.wrap IntKind.i64 (u * k)) (IntKind.wrap IntKind.i64 (v * k)) else false then true else ((bif (bif kv0 n0 d0 s0 a0 j0 y0 h0 n1 d1 s1 a1 j1 y1 h1 n2 d2 s2 a2 j2 y2 h2 n3 d3 s3 a3 j3 y3 h3 xy tk && dval (IntKind.wrap IntKind.i64 (a * k)) (IntKind.wrap IntKind.i64 (b * k)) (IntKind.wrap IntKind.i64 (c * k)) (IntKind.wrap IntKind.i64 (d * k)) then acE a0 a1 a2 a3 (IntKind.wrap IntKind.i64 (a * k)) (IntKind.wrap IntKind.i64 (b * k)) (IntKind.wrap IntKind.i64 (c * k)) (IntKind.wrap IntKind.i64 (d * k)) else (0 : Int)) == bif kv0 n0 d0 s0 a0 j0 y0 h0 n1 d1 s1 a1 j1 y1 h1 n2 d2 s2 a2 j2 y2 h2 n3 d3 s3 a3 j3 y3 h3 xy tk && dval a b c d then acE a0 a1 a2 a3 a b c d else (0 : Int) then ((true) && (true)) else true))))) (.ret (.one (.v false (.bool (bif bif bif bif !bif kv0 n0 d0 s0 a0 j0 y0 h0 n1 d1 s1 a1 j1 y1 h1 n2 d2 s2 a2 j2 y2 h2 n3 d3 s3 a3 j3 y3 h3 xy tk then dval a b c d else false then true else !bif kv0 n0 d0 s0 a0 j0 y0 h0 n1 d1 s1 a1 j1 y1 h1 n2 d2 s2 a2 j2 y2 h2 n3 d3 s3 a3 j3 y3 h3 xy tk then dval p q u v else false then true else decide (k < (1 : Int)) then true else decide (k > (16777216 : Int)) then true else bif bif !bif kv0 n0 d0 s0 a0 j0 y0 h0 n1 d1 s1 a1 j1 y1 h1 n2 d2 s2 a2 j2 y2 h2 n3 d3 s3 a3 j3 y3 h3 xy tk then dval (IntKind.wrap IntKind.i64 (a * k)) (IntKind.wrap IntKind.i64 (b * k)) (IntKind.wrap IntKind.i64 (c * k)) (IntKind.wrap IntKind.i64 (d * k)) else false then true else !bif kv0 n0 d0 s0 a0 j0 y0 h0 n1 d1 s1 a1 j1 y1 h1 n2 d2 s2 a2 j2 y2 h2 n3 d3 s3 a3 j3 y3 h3 xy tk then dval (IntKind.wrap IntKind.i64 (p * k)) (IntKind.wrap IntKind.i64 (q * k)) (IntKind.wrap IntKind.i64 (u * k)) (IntKind.wrap IntKind.i64 (v * k)) else false then true else bif bif bif bif (bif kv0 n0 d0 s0 a0 j0 y0 h0 n1 d1 s1 a1 j1 y1 h1 n2 d2 s2 a2 j2 y2 h2 n3 d3 s3 a3 j3 y3 h3 xy tk && dval (IntKind.wrap IntKind.i64 (a * k)) (IntKind.wrap IntKind.i64 (b * k)) (IntKind.wrap IntKind.i64 (c * k)) (IntKind.wrap IntKind.i64 (d * k)) then acE a0 a1 a2 a3 (IntKind.wrap IntKind.i64 (a * k)) (IntKind.wrap IntKind.i64 (b * k)) (IntKind.wrap IntKind.i64 (c * k)) (IntKind.wrap IntKind.i64 (d * k)) else (0 : Int)) == bif kv0 n0 d0 s0 a0 j0 y0 h0 n1 d1 s1 a1 j1 y1 h1 n2 d2 s2 a2 j2 y2 h2 n3 d3 s3 a3 j3 y3 h3 xy tk && dval a b c d then acE a0 a1 a2 a3 a b c d else (0 : Int) then (bif kv0 n0 d0 s0 a0 j0 y0 h0 n1 d1 s1 a1 j1 y1 h1 n2 d2 s2 a2 j2 y2 h2 n3 d3 s3 a3 j3 y3 h3 xy tk && dval (IntKind.wrap IntKind.i64 (a * k)) (IntKind.wrap IntKind.i64 (b * k)) (IntKind.wrap IntKind.i64 (c * k)) (IntKind.wrap IntKind.i64 (d * k)) then spV s0 s1 s2 s3 (IntKind.wrap IntKind.i64 (a * k)) (IntKind.wrap IntKind.i64 (b * k)) (IntKind.wrap IntKind.i64 (c * k)) (IntKind.wrap IntKind.i64 (d * k)) (0 : Int) (0 : Int) else (0 : Int)) == bif kv0 n0 d0 s0 a0 j0 y0 h0 n1 d1 s1 a1 j1 y1 h1 n2 d2 s2 a2 j2 y2 h2 n3 d3 s3 a3 j3 y3 h3 xy tk && dval a b c d then spV s0 s1 s2 s3 a b c d (0 : Int) (0 : Int) else (0 : Int) else false then (bif kv0 n0 d0 s0 a0 j0 y0 h0 n1 d1 s1 a1 j1 y1 h1 n2 d2 s2 a2 j2 y2 h2 n3 d3 s3 a3 j3 y3 h3 xy tk && dval (IntKind.wrap IntKind.i64 (a * k)) (IntKind.wrap IntKind.i64 (b * k)) (IntKind.wrap IntKind.i64 (c * k)) (IntKind.wrap IntKind.i64 (d * k)) && dval (IntKind.wrap IntKind.i64 (p * k)) (IntKind.wrap IntKind.i64 (q * k)) (IntKind.wrap IntKind.i64 (u * k)) (IntKind.wrap IntKind.i64 (v * k)) then juE j0 j1 j2 j3 (IntKind.wrap IntKind.i64 (a * k)) (IntKind.wrap IntKind.i64 (b * k)) (IntKind.wrap IntKind.i64 (c * k)) (IntKind.wrap IntKind.i64 (d * k)) (IntKind.wrap IntKind.i64 (p * k)) (IntKind.wrap IntKind.i64 (q * k)) (IntKind.wrap IntKind.i64 (u * k)) (IntKind.wrap IntKind.i64 (v * k)) else (0 : Int)) == bif kv0 n0 d0 s0 a0 j0 y0 h0 n1 d1 s1 a1 j1 y1 h1 n2 d2 s2 a2 j2 y2 h2 n3 d3 s3 a3 j3 y3 h3 xy tk && dval a b c d && dval p q u v then juE j0 j1 j2 j3 a b c d p q u v else (0 : Int) else false then (bif kv0 n0 d0 s0 a0 j0 y0 h0 n1 d1 s1 a1 j1 y1 h1 n2 d2 s2 a2 j2 y2 h2 n3 d3 s3 a3 j3 y3 h3 xy tk && dval (IntKind.wrap IntKind.i64 (a * k)) (IntKind.wrap IntKind.i64 (b * k)) (IntKind.wrap IntKind.i64 (c * k)) (IntKind.wrap IntKind.i64 (d * k)) && dval p q u v then juE j0 j1 j2 j3 (IntKind.wrap IntKind.i64 (a * k)) (IntKind.wrap IntKind.i64 (b * k)) (IntKind.wrap IntKind.i64 (c * k)) (IntKind.wrap IntKind.i64 (d * k)) p q u v else (0 : Int)) == bif kv0 n0 d0 s0 a0 j0 y0 h0 n1 d1 s1 a1 j1 y1 h1 n2 d2 s2 a2 j2 y2 h2 n3 d3 s3 a3 j3 y3 h3 xy tk && dval a b c d && dval p q u v then juE j0 j1 j2 j3 a b c d p q u v else (0 : Int) else false then true else false))))) (.bad 116)) := by
  cases hk : kv0 n0 d0 s0 a0 j0 y0 h0 n1 d1 s1 a1 j1 y1 h1 n2 d2 s2 a2 j2 y2 h2 n3 d3 s3 a3 j3 y3 h3 xy tk
  · simp only [cond_false, Bool.not_false, cond_true]
    exact ⟨fun _ => ⟨_, rfl⟩, fun h => by cases h⟩
  · cases hd : dval a b c d
    · simp only [cond_false, Bool.not_false, cond_true]
      exact ⟨fun _ => ⟨_, rfl⟩, fun h => by cases h⟩
    cases he : dval p q u v
    · simp only [cond_false, Bool.not_true, Bool.not_false, cond_true]
      exact ⟨fun _ => ⟨_, rfl⟩, fun h => by cases h⟩
    by_cases k1 : k < 1
    · have d1 : decide (k < (1 : Int)) = true := decide_eq_true k1
      simp only [d1, cond_false, Bool.not_true, cond_true]
      exact ⟨fun _ => ⟨_, rfl⟩, fun h => by cases h⟩
    by_cases k2 : k > 16777216
    · have d1 : decide (k < (1 : Int)) = false := decide_eq_false k1
      have d2 : decide (k > (16777216 : Int)) = true := decide_eq_true k2
      simp only [d1, d2, cond_false, Bool.not_true, cond_true]
      exact ⟨fun _ => ⟨_, rfl⟩, fun h => by cases h⟩
    · have d1 : decide (k < (1 : Int)) = false := decide_eq_false k1
      have d2 : decide (k > (16777216 : Int)) = false := decide_eq_false k2
      obtain ⟨e0, e1, e2, e3, _⟩ := dv_iff.1 hd
      obtain ⟨g0, g1, g2, g3, _⟩ := dv_iff.1 he
      have wa : IntKind.wrap IntKind.i64 (a * k) = a * k := by
        have := mul_bd (x := a) (y := k) (X := 16777216) (Y := 16777216) ⟨by omega, by omega⟩ ⟨by omega, by omega⟩ (by omega)
        exact IntWalk.i64_in _ ⟨by omega, by omega⟩
      have wb : IntKind.wrap IntKind.i64 (b * k) = b * k := by
        have := mul_bd (x := b) (y := k) (X := 16777216) (Y := 16777216) ⟨by omega, by omega⟩ ⟨by omega, by omega⟩ (by omega)
        exact IntWalk.i64_in _ ⟨by omega, by omega⟩
      have wc : IntKind.wrap IntKind.i64 (c * k) = c * k := by
        have := mul_bd (x := c) (y := k) (X := 16777216) (Y := 16777216) ⟨by omega, by omega⟩ ⟨by omega, by omega⟩ (by omega)
        exact IntWalk.i64_in _ ⟨by omega, by omega⟩
      have wd : IntKind.wrap IntKind.i64 (d * k) = d * k := by
        have := mul_bd (x := d) (y := k) (X := 16777216) (Y := 16777216) ⟨by omega, by omega⟩ ⟨by omega, by omega⟩ (by omega)
        exact IntWalk.i64_in _ ⟨by omega, by omega⟩
      have wp : IntKind.wrap IntKind.i64 (p * k) = p * k := by
        have := mul_bd (x := p) (y := k) (X := 16777216) (Y := 16777216) ⟨by omega, by omega⟩ ⟨by omega, by omega⟩ (by omega)
        exact IntWalk.i64_in _ ⟨by omega, by omega⟩
      have wq : IntKind.wrap IntKind.i64 (q * k) = q * k := by
        have := mul_bd (x := q) (y := k) (X := 16777216) (Y := 16777216) ⟨by omega, by omega⟩ ⟨by omega, by omega⟩ (by omega)
        exact IntWalk.i64_in _ ⟨by omega, by omega⟩
      have wu : IntKind.wrap IntKind.i64 (u * k) = u * k := by
        have := mul_bd (x := u) (y := k) (X := 16777216) (Y := 16777216) ⟨by omega, by omega⟩ ⟨by omega, by omega⟩ (by omega)
        exact IntWalk.i64_in _ ⟨by omega, by omega⟩
      have wv : IntKind.wrap IntKind.i64 (v * k) = v * k := by
        have := mul_bd (x := v) (y := k) (X := 16777216) (Y := 16777216) ⟨by omega, by omega⟩ ⟨by omega, by omega⟩ (by omega)
        exact IntWalk.i64_in _ ⟨by omega, by omega⟩
      simp only [wa, wb, wc, wd, wp, wq, wu, wv, d1, d2, cond_false, Bool.not_true, cond_true, Bool.true_and]
      cases f1 : dval (a * k) (b * k) (c * k) (d * k)
      · simp only [Bool.not_false, cond_true]
        exact ⟨fun _ => ⟨_, rfl⟩, fun h => by cases h⟩
      cases f2 : dval (p * k) (q * k) (u * k) (v * k)
      · simp only [Bool.not_false, Bool.not_true, cond_false, cond_true]
        exact ⟨fun _ => ⟨_, rfl⟩, fun h => by cases h⟩
      have hp : 0 < k := by omega
      simp only [cond_false, Bool.not_true, cond_true, Bool.and_self, hd, he, spv0, sp_scale hp hd f1, ac_scale hp hd f1, ju_scale1 hp hd f1, ju_scale2 hp he f2, beq_self_eq_true]
      exact ⟨fun _ => ⟨_, rfl⟩, fun h => by cases h⟩
set_option maxHeartbeats 4000000 in
theorem law_LimitsScale (v0 : Value) (x0 : ((.prod (.prod (.prod (.int .i64) (.prod (.int .i64) (.prod (.int .i64) (.prod (.int .i64) (.prod (.int .i64) (.prod (.int .i64) (.int .i64))))))) (.prod (.prod (.int .i64) (.prod (.int .i64) (.prod (.int .i64) (.prod (.int .i64) (.prod (.int .i64) (.prod (.int .i64) (.int .i64))))))) (.prod (.prod (.int .i64) (.prod (.int .i64) (.prod (.int .i64) (.prod (.int .i64) (.prod (.int .i64) (.prod (.int .i64) (.int .i64))))))) (.prod (.int .i64) (.prod (.int .i64) (.prod (.int .i64) (.prod (.int .i64) (.prod (.int .i64) (.prod (.int .i64) (.int .i64)))))))))) (.prod .bool (.int .i64))) : Ty).den) (r0 : Ty.InR (.prod (.prod (.prod (.int .i64) (.prod (.int .i64) (.prod (.int .i64) (.prod (.int .i64) (.prod (.int .i64) (.prod (.int .i64) (.int .i64))))))) (.prod (.prod (.int .i64) (.prod (.int .i64) (.prod (.int .i64) (.prod (.int .i64) (.prod (.int .i64) (.prod (.int .i64) (.int .i64))))))) (.prod (.prod (.int .i64) (.prod (.int .i64) (.prod (.int .i64) (.prod (.int .i64) (.prod (.int .i64) (.prod (.int .i64) (.int .i64))))))) (.prod (.int .i64) (.prod (.int .i64) (.prod (.int .i64) (.prod (.int .i64) (.prod (.int .i64) (.prod (.int .i64) (.int .i64)))))))))) (.prod .bool (.int .i64))) x0) (v1 : Value) (x1 : ((.prod (.int .i64) (.prod (.int .i64) (.prod (.int .i64) (.int .i64)))) : Ty).den) (r1 : Ty.InR (.prod (.int .i64) (.prod (.int .i64) (.prod (.int .i64) (.int .i64)))) x1) (v2 : Value) (x2 : ((.prod (.int .i64) (.prod (.int .i64) (.prod (.int .i64) (.int .i64)))) : Ty).den) (r2 : Ty.InR (.prod (.int .i64) (.prod (.int .i64) (.prod (.int .i64) (.int .i64)))) x2) (k : Int) (l3 : -9223372036854775808 ≤ k) (g3 : k ≤ 9223372036854775807) (z_w : World) (i0 : (AV.ag (Ty.cells false (.prod (.prod (.prod (.int .i64) (.prod (.int .i64) (.prod (.int .i64) (.prod (.int .i64) (.prod (.int .i64) (.prod (.int .i64) (.int .i64))))))) (.prod (.prod (.int .i64) (.prod (.int .i64) (.prod (.int .i64) (.prod (.int .i64) (.prod (.int .i64) (.prod (.int .i64) (.int .i64))))))) (.prod (.prod (.int .i64) (.prod (.int .i64) (.prod (.int .i64) (.prod (.int .i64) (.prod (.int .i64) (.prod (.int .i64) (.int .i64))))))) (.prod (.int .i64) (.prod (.int .i64) (.prod (.int .i64) (.prod (.int .i64) (.prod (.int .i64) (.prod (.int .i64) (.int .i64)))))))))) (.prod .bool (.int .i64))) x0)).is [] (fun _ => none) (fun b => b < z_w.heap.size) z_w v0) (i1 : (AV.ag (Ty.cells false (.prod (.int .i64) (.prod (.int .i64) (.prod (.int .i64) (.int .i64)))) x1)).is [] (fun _ => none) (fun b => b < z_w.heap.size) z_w v1) (i2 : (AV.ag (Ty.cells false (.prod (.int .i64) (.prod (.int .i64) (.prod (.int .i64) (.int .i64)))) x2)).is [] (fun _ => none) (fun b => b < z_w.heap.size) z_w v2) : Calls Try.prog 6 #[v0, v1, v2, .int .i64 k] z_w fun e w' => e = .returned (.bool true) ∧ Ext z_w w' := by
  obtain ⟨⟨⟨n0, ⟨d0, ⟨s0, ⟨a0, ⟨j0, ⟨y0, h0⟩⟩⟩⟩⟩⟩, ⟨⟨n1, ⟨d1, ⟨s1, ⟨a1, ⟨j1, ⟨y1, h1⟩⟩⟩⟩⟩⟩, ⟨⟨n2, ⟨d2, ⟨s2, ⟨a2, ⟨j2, ⟨y2, h2⟩⟩⟩⟩⟩⟩, ⟨n3, ⟨d3, ⟨s3, ⟨a3, ⟨j3, ⟨y3, h3⟩⟩⟩⟩⟩⟩⟩⟩⟩, ⟨xy, tk⟩⟩ := x0
  obtain ⟨a, ⟨b, ⟨c, d⟩⟩⟩ := x1
  obtain ⟨p, ⟨q, ⟨u, v⟩⟩⟩ := x2
  refine law_of_tree (by kernel_rfl) (lmF_S81_ok) (L0_ok _) (law_LimitsScale_tree n0 d0 s0 a0 j0 y0 h0 n1 d1 s1 a1 j1 y1 h1 n2 d2 s2 a2 j2 y2 h2 n3 d3 s3 a3 j3 y3 h3 xy tk a b c d p q u v k) (law_LimitsScale_all n0 d0 s0 a0 j0 y0 h0 n1 d1 s1 a1 j1 y1 h1 n2 d2 s2 a2 j2 y2 h2 n3 d3 s3 a3 j3 y3 h3 xy tk a b c d p q u v k r0 r1 r2 l3 g3) rfl z_w _ _ (fun _ h => h) ⟨_, _, rfl, i0, ⟨_, _, rfl, i1, ⟨_, _, rfl, i2, ⟨_, _, rfl, rfl, rfl⟩⟩⟩⟩
end Go.Proofs.Ytnmjikaojoaaaaa
