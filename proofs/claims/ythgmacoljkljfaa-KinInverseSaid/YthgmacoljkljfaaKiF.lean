/-
  The law KinInverse.
-/
import Derived.Test.YthgmacoljkljfaaProg
import Derived.Test.YthgmacoljkljfaaEvK
import Derived.Test.YthgmacoljkljfaaKiD
import Derived.Test.YthgmacoljkljfaaKiE
namespace Go.Proofs.Ythgmacoljkljfaa
open Go
theorem rnd_eq {a b q : Int} (hb : 0 < b) (h1 : 2 * b * q ≤ 2 * a + b) (h2 : 2 * a + b < 2 * b * q + 2 * b) (q0 : -9223372036854775808 ≤ q) (q1 : q ≤ 9223372036854775807) : rnd a b = (q, 0) := by
  have hz : ¬ (b = 0) := by omega
  have h3 : (0 : Int) < 2 * b := by omega
  have key : rnd a b = fit ((2 * a + b) / (2 * b)) := by simp only [rnd, fl, if_neg hz, if_pos h3]
  have e : (2 * a + b) / (2 * b) = q := by
    have h4 : (2 * a + b) = (2 * a + b - 2 * b * q) + q * (2 * b) := by rw [Int.mul_comm q]; omega
    rw [h4, Int.add_mul_ediv_right _ _ (by omega), Int.ediv_eq_zero_of_lt (by omega) (by omega)]; omega
  rw [key, e]
  exact fit_in q0 q1
/-- A position comes back from its steps. -/
theorem back {n d p : Int} (d0 : 1 ≤ d) (dn : d ≤ n) (n1 : n ≤ 65536) (p0 : -1073741824 ≤ p) (p1 : p ≤ 1073741824) (h : (rnd (p * n) d).2 = 0) :
    (-70368744177664 ≤ (rnd (p * n) d).1 ∧ (rnd (p * n) d).1 ≤ 70368744177664) ∧ rnd ((rnd (p * n) d).1 * d) n = (p, 0) := by
  obtain ⟨h1, h2⟩ := rnd_near (by omega) h
  generalize (rnd (p * n) d).1 = q at *
  have e := mul_in (a := p) (b := n) (k := 1073741824) (m := 65536) p0 p1 (by omega) (by omega)
  have b1 : q ≤ 70368744177664 := by
    rcases Int.lt_or_le 70368744177664 q with hq | hq
    · exfalso
      have := Int.mul_le_mul_of_nonneg_left (show (70368744177665 : Int) ≤ q by omega) (show (0 : Int) ≤ 2 * d by omega)
      omega
    · exact hq
  have b0 : -70368744177664 ≤ q := by
    rcases Int.lt_or_le q (-70368744177664) with hq | hq
    · exfalso
      have := Int.mul_le_mul_of_nonneg_left (show q ≤ (-70368744177665 : Int) by omega) (show (0 : Int) ≤ 2 * d by omega)
      omega
    · exact hq
  refine ⟨⟨b0, b1⟩, ?_⟩
  have c1 : 2 * d * q = 2 * (q * d) := by rw [Int.mul_assoc, Int.mul_comm d q]
  have c2 : 2 * n * p = 2 * (p * n) := by rw [Int.mul_assoc, Int.mul_comm n p]
  rw [c1] at h1 h2
  refine rnd_eq (by omega) (by rw [c2]; omega) ?_ (by omega) (by omega)
  rw [c2]
  rcases Int.lt_or_le d n with hdn | hdn
  · omega
  · obtain rfl : d = n := by omega
    rcases Int.lt_or_le p q with hpq | hpq
    · exfalso
      have := Int.mul_le_mul_of_nonneg_right (show p + 1 ≤ q by omega) (show (0 : Int) ≤ d by omega)
      rw [Int.add_mul] at this
      omega
    · have := Int.mul_le_mul_of_nonneg_right hpq (show (0 : Int) ≤ d by omega)
      omega
theorem kst_back {n0 d0 s0 a0 j0 l0 h0 n1 d1 s1 a1 j1 l1 h1 n2 d2 s2 a2 j2 l2 h2 n3 d3 s3 a3 j3 l3 h3 : Int} {xy : Bool} {tk : Int} {i p : Int} (h : (kst n0 d0 s0 a0 j0 l0 h0 n1 d1 s1 a1 j1 l1 h1 n2 d2 s2 a2 j2 l2 h2 n3 d3 s3 a3 j3 l3 h3 xy tk i p).2 = 0) : (-70368744177664 ≤ (kst n0 d0 s0 a0 j0 l0 h0 n1 d1 s1 a1 j1 l1 h1 n2 d2 s2 a2 j2 l2 h2 n3 d3 s3 a3 j3 l3 h3 xy tk i p).1 ∧ (kst n0 d0 s0 a0 j0 l0 h0 n1 d1 s1 a1 j1 l1 h1 n2 d2 s2 a2 j2 l2 h2 n3 d3 s3 a3 j3 l3 h3 xy tk i p).1 ≤ 70368744177664) ∧ kun n0 d0 s0 a0 j0 l0 h0 n1 d1 s1 a1 j1 l1 h1 n2 d2 s2 a2 j2 l2 h2 n3 d3 s3 a3 j3 l3 h3 xy tk i (kst n0 d0 s0 a0 j0 l0 h0 n1 d1 s1 a1 j1 l1 h1 n2 d2 s2 a2 j2 l2 h2 n3 d3 s3 a3 j3 l3 h3 xy tk i p).1 = (p, 0) := by
  by_cases hc : kv0 n0 d0 s0 a0 j0 l0 h0 n1 d1 s1 a1 j1 l1 h1 n2 d2 s2 a2 j2 l2 h2 n3 d3 s3 a3 j3 l3 h3 xy tk = true ∧ 0 ≤ i ∧ i ≤ 3 ∧ -1073741824 ≤ p ∧ p ≤ 1073741824
  case neg =>
    have q : kst n0 d0 s0 a0 j0 l0 h0 n1 d1 s1 a1 j1 l1 h1 n2 d2 s2 a2 j2 l2 h2 n3 d3 s3 a3 j3 l3 h3 xy tk i p = (0, 1) := if_neg hc
    rw [q] at h; cases h
  have q : kst n0 d0 s0 a0 j0 l0 h0 n1 d1 s1 a1 j1 l1 h1 n2 d2 s2 a2 j2 l2 h2 n3 d3 s3 a3 j3 l3 h3 xy tk i p = rnd (p * ax i n0 n1 n2 n3) (ax i d0 d1 d2 d3) := if_pos hc
  rw [q] at h ⊢
  obtain ⟨hv, i0, i1, p0, p1⟩ := hc
  obtain ⟨⟨_, _, _, _⟩, ⟨_, _, _, _⟩, ⟨_, _, _, _⟩, ⟨_, _, _, _⟩⟩ := kv_spec hv
  have hx : 1 ≤ ax i d0 d1 d2 d3 ∧ ax i d0 d1 d2 d3 ≤ ax i n0 n1 n2 n3 ∧ ax i n0 n1 n2 n3 ≤ 65536 := by unfold ax; refine ⟨?_, ?_, ?_⟩ <;> (repeat' split) <;> omega
  obtain ⟨hb, hr⟩ := back hx.1 hx.2.1 hx.2.2 p0 p1 h
  refine ⟨hb, ?_⟩
  have q' : ∀ r, -70368744177664 ≤ r → r ≤ 70368744177664 → kun n0 d0 s0 a0 j0 l0 h0 n1 d1 s1 a1 j1 l1 h1 n2 d2 s2 a2 j2 l2 h2 n3 d3 s3 a3 j3 l3 h3 xy tk i r = rnd (r * ax i d0 d1 d2 d3) (ax i n0 n1 n2 n3) := fun r r0 r1 => if_pos ⟨hv, i0, i1, r0, r1⟩
  rw [q' _ hb.1 hb.2]
  exact hr
theorem half_back {a b : Int} (a0 : -70368744177664 ≤ a) (a1 : a ≤ 70368744177664) (b0 : -70368744177664 ≤ b) (b1 : b ≤ 70368744177664) :
    Int.fdiv (IntKind.wrap IntKind.i64 (IntKind.wrap IntKind.i64 (a + b) + IntKind.wrap IntKind.i64 (a - b))) ((2 : Int) ^ min (Int.toNat (1 : Int)) (IntKind.bits IntKind.i64)) = a ∧
    Int.fdiv (IntKind.wrap IntKind.i64 (IntKind.wrap IntKind.i64 (a + b) - IntKind.wrap IntKind.i64 (a - b))) ((2 : Int) ^ min (Int.toNat (1 : Int)) (IntKind.bits IntKind.i64)) = b := by
  have e2 : ((2 : Int) ^ min (Int.toNat (1 : Int)) (IntKind.bits IntKind.i64)) = 2 := by decide
  have w1 : IntKind.wrap IntKind.i64 (a + b) = a + b := IntWalk.i64_in _ (by omega)
  have w2 : IntKind.wrap IntKind.i64 (a - b) = a - b := IntWalk.i64_in _ (by omega)
  have w3 : IntKind.wrap IntKind.i64 (a + b + (a - b)) = a + b + (a - b) := IntWalk.i64_in _ (by omega)
  have w4 : IntKind.wrap IntKind.i64 (a + b - (a - b)) = a + b - (a - b) := IntWalk.i64_in _ (by omega)
  rw [e2, w1, w2, w3, w4, Int.fdiv_eq_ediv_of_nonneg _ (by decide), Int.fdiv_eq_ediv_of_nonneg _ (by decide)]
  omega
theorem near_t {p : Int} (h0 : -140737488355328 ≤ p) (h1 : p ≤ 140737488355328) : (bif decide ((-281474976710656 : Int) ≤ p) then decide (p ≤ (281474976710656 : Int)) else false) = true := by
  rw [decide_eq_true (show (-281474976710656 : Int) ≤ p by omega), decide_eq_true (show p ≤ (281474976710656 : Int) by omega)]; rfl
set_option maxRecDepth 100000 in
theorem law_KinInverse_tree (n0 d0 s0 a0 j0 l0 h0 n1 d1 s1 a1 j1 l1 h1 n2 d2 s2 a2 j2 l2 h2 n3 d3 s3 a3 j3 l3 h3 : Int) (xy : Bool) (tk x y z e p0 p1 p2 p3 : Int) : evalF Try.prog kiE_S4 6 6 [(false, .agg #[.int .i64 n0, .int .i64 d0, .int .i64 s0, .int .i64 a0, .int .i64 j0, .int .i64 l0, .int .i64 h0, .int .i64 n1, .int .i64 d1, .int .i64 s1, .int .i64 a1, .int .i64 j1, .int .i64 l1, .int .i64 h1, .int .i64 n2, .int .i64 d2, .int .i64 s2, .int .i64 a2, .int .i64 j2, .int .i64 l2, .int .i64 h2, .int .i64 n3, .int .i64 d3, .int .i64 s3, .int .i64 a3, .int .i64 j3, .int .i64 l3, .int .i64 h3, .bool xy, .int .i64 tk, .int .i64 x, .int .i64 y, .int .i64 z, .int .i64 e, .int .i64 p0, .int .i64 p1, .int .i64 p2, .int .i64 p3])] = .ret (false, .bool (bif mo4 n0 d0 s0 a0 j0 l0 h0 n1 d1 s1 a1 j1 l1 h1 n2 d2 s2 a2 j2 l2 h2 n3 d3 s3 a3 j3 l3 h3 xy tk x y z e != (0 : Int) then true else bif bif bif po4 n0 d0 s0 a0 j0 l0 h0 n1 d1 s1 a1 j1 l1 h1 n2 d2 s2 a2 j2 l2 h2 n3 d3 s3 a3 j3 l3 h3 xy tk (mo0 n0 d0 s0 a0 j0 l0 h0 n1 d1 s1 a1 j1 l1 h1 n2 d2 s2 a2 j2 l2 h2 n3 d3 s3 a3 j3 l3 h3 xy tk x y z e) (mo1 n0 d0 s0 a0 j0 l0 h0 n1 d1 s1 a1 j1 l1 h1 n2 d2 s2 a2 j2 l2 h2 n3 d3 s3 a3 j3 l3 h3 xy tk x y z e) (mo2 n0 d0 s0 a0 j0 l0 h0 n1 d1 s1 a1 j1 l1 h1 n2 d2 s2 a2 j2 l2 h2 n3 d3 s3 a3 j3 l3 h3 xy tk x y z e) (mo3 n0 d0 s0 a0 j0 l0 h0 n1 d1 s1 a1 j1 l1 h1 n2 d2 s2 a2 j2 l2 h2 n3 d3 s3 a3 j3 l3 h3 xy tk x y z e) == (0 : Int) then po0 n0 d0 s0 a0 j0 l0 h0 n1 d1 s1 a1 j1 l1 h1 n2 d2 s2 a2 j2 l2 h2 n3 d3 s3 a3 j3 l3 h3 xy tk (mo0 n0 d0 s0 a0 j0 l0 h0 n1 d1 s1 a1 j1 l1 h1 n2 d2 s2 a2 j2 l2 h2 n3 d3 s3 a3 j3 l3 h3 xy tk x y z e) (mo1 n0 d0 s0 a0 j0 l0 h0 n1 d1 s1 a1 j1 l1 h1 n2 d2 s2 a2 j2 l2 h2 n3 d3 s3 a3 j3 l3 h3 xy tk x y z e) (mo2 n0 d0 s0 a0 j0 l0 h0 n1 d1 s1 a1 j1 l1 h1 n2 d2 s2 a2 j2 l2 h2 n3 d3 s3 a3 j3 l3 h3 xy tk x y z e) (mo3 n0 d0 s0 a0 j0 l0 h0 n1 d1 s1 a1 j1 l1 h1 n2 d2 s2 a2 j2 l2 h2 n3 d3 s3 a3 j3 l3 h3 xy tk x y z e) == x && (po1 n0 d0 s0 a0 j0 l0 h0 n1 d1 s1 a1 j1 l1 h1 n2 d2 s2 a2 j2 l2 h2 n3 d3 s3 a3 j3 l3 h3 xy tk (mo0 n0 d0 s0 a0 j0 l0 h0 n1 d1 s1 a1 j1 l1 h1 n2 d2 s2 a2 j2 l2 h2 n3 d3 s3 a3 j3 l3 h3 xy tk x y z e) (mo1 n0 d0 s0 a0 j0 l0 h0 n1 d1 s1 a1 j1 l1 h1 n2 d2 s2 a2 j2 l2 h2 n3 d3 s3 a3 j3 l3 h3 xy tk x y z e) (mo2 n0 d0 s0 a0 j0 l0 h0 n1 d1 s1 a1 j1 l1 h1 n2 d2 s2 a2 j2 l2 h2 n3 d3 s3 a3 j3 l3 h3 xy tk x y z e) (mo3 n0 d0 s0 a0 j0 l0 h0 n1 d1 s1 a1 j1 l1 h1 n2 d2 s2 a2 j2 l2 h2 n3 d3 s3 a3 j3 l3 h3 xy tk x y z e) == y && (po2 n0 d0 s0 a0 j0 l0 h0 n1 d1 s1 a1 j1 l1 h1 n2 d2 s2 a2 j2 l2 h2 n3 d3 s3 a3 j3 l3 h3 xy tk (mo0 n0 d0 s0 a0 j0 l0 h0 n1 d1 s1 a1 j1 l1 h1 n2 d2 s2 a2 j2 l2 h2 n3 d3 s3 a3 j3 l3 h3 xy tk x y z e) (mo1 n0 d0 s0 a0 j0 l0 h0 n1 d1 s1 a1 j1 l1 h1 n2 d2 s2 a2 j2 l2 h2 n3 d3 s3 a3 j3 l3 h3 xy tk x y z e) (mo2 n0 d0 s0 a0 j0 l0 h0 n1 d1 s1 a1 j1 l1 h1 n2 d2 s2 a2 j2 l2 h2 n3 d3 s3 a3 j3 l3 h3 xy tk x y z e) (mo3 n0 d0 s0 a0 j0 l0 h0 n1 d1 s1 a1 j1 l1 h1 n2 d2 s2 a2 j2 l2 h2 n3 d3 s3 a3 j3 l3 h3 xy tk x y z e) == z && true)) else false then po3 n0 d0 s0 a0 j0 l0 h0 n1 d1 s1 a1 j1 l1 h1 n2 d2 s2 a2 j2 l2 h2 n3 d3 s3 a3 j3 l3 h3 xy tk (mo0 n0 d0 s0 a0 j0 l0 h0 n1 d1 s1 a1 j1 l1 h1 n2 d2 s2 a2 j2 l2 h2 n3 d3 s3 a3 j3 l3 h3 xy tk x y z e) (mo1 n0 d0 s0 a0 j0 l0 h0 n1 d1 s1 a1 j1 l1 h1 n2 d2 s2 a2 j2 l2 h2 n3 d3 s3 a3 j3 l3 h3 xy tk x y z e) (mo2 n0 d0 s0 a0 j0 l0 h0 n1 d1 s1 a1 j1 l1 h1 n2 d2 s2 a2 j2 l2 h2 n3 d3 s3 a3 j3 l3 h3 xy tk x y z e) (mo3 n0 d0 s0 a0 j0 l0 h0 n1 d1 s1 a1 j1 l1 h1 n2 d2 s2 a2 j2 l2 h2 n3 d3 s3 a3 j3 l3 h3 xy tk x y z e) == e else false then true else false)) := by kernel_rfl
set_option maxHeartbeats 8000000 in
theorem law_KinInverse (n0 d0 s0 a0 j0 l0 h0 n1 d1 s1 a1 j1 l1 h1 n2 d2 s2 a2 j2 l2 h2 n3 d3 s3 a3 j3 l3 h3 : Int) (xy : Bool) (tk x y z e p0 p1 p2 p3 : Int) (z_w : World) : Calls Try.prog 6 #[.agg #[.int .i64 n0, .int .i64 d0, .int .i64 s0, .int .i64 a0, .int .i64 j0, .int .i64 l0, .int .i64 h0, .int .i64 n1, .int .i64 d1, .int .i64 s1, .int .i64 a1, .int .i64 j1, .int .i64 l1, .int .i64 h1, .int .i64 n2, .int .i64 d2, .int .i64 s2, .int .i64 a2, .int .i64 j2, .int .i64 l2, .int .i64 h2, .int .i64 n3, .int .i64 d3, .int .i64 s3, .int .i64 a3, .int .i64 j3, .int .i64 l3, .int .i64 h3, .bool xy, .int .i64 tk, .int .i64 x, .int .i64 y, .int .i64 z, .int .i64 e, .int .i64 p0, .int .i64 p1, .int .i64 p2, .int .i64 p3]] z_w fun e w' => e = .returned (.bool true) ∧ Ext z_w w' := by
  refine calls_of_tree (by kernel_rfl) (kiE_S4_ok) (law_KinInverse_tree n0 d0 s0 a0 j0 l0 h0 n1 d1 s1 a1 j1 l1 h1 n2 d2 s2 a2 j2 l2 h2 n3 d3 s3 a3 j3 l3 h3 xy tk x y z e p0 p1 p2 p3) (v := .bool true) ?_ z_w
  refine congrArg Value.bool ?_
  by_cases h4 : mo4 n0 d0 s0 a0 j0 l0 h0 n1 d1 s1 a1 j1 l1 h1 n2 d2 s2 a2 j2 l2 h2 n3 d3 s3 a3 j3 l3 h3 xy tk x y z e = 0
  case neg =>
    have hb : (mo4 n0 d0 s0 a0 j0 l0 h0 n1 d1 s1 a1 j1 l1 h1 n2 d2 s2 a2 j2 l2 h2 n3 d3 s3 a3 j3 l3 h3 xy tk x y z e != 0) = true := by simpa using h4
    rw [hb]; rfl
  have hb : (mo4 n0 d0 s0 a0 j0 l0 h0 n1 d1 s1 a1 j1 l1 h1 n2 d2 s2 a2 j2 l2 h2 n3 d3 s3 a3 j3 l3 h3 xy tk x y z e != 0) = false := by simpa using h4
  rw [hb]
  clear hb
  have i1 : IntKind.wrap IntKind.i64 ((0 : Int) + (1 : Int)) = 1 := by decide
  have i2 : IntKind.wrap IntKind.i64 ((1 : Int) + (1 : Int)) = 2 := by decide
  have i3 : IntKind.wrap IntKind.i64 ((2 : Int) + (1 : Int)) = 3 := by decide
  simp only [mo4, i1, i2, i3] at h4
  cases t0 : ((kst n0 d0 s0 a0 j0 l0 h0 n1 d1 s1 a1 j1 l1 h1 n2 d2 s2 a2 j2 l2 h2 n3 d3 s3 a3 j3 l3 h3 xy tk 0 x).2 != 0)
  case true => rw [t0] at h4; simp only [cond_true] at h4; rw [h4] at t0; cases t0
  rw [t0] at h4
  simp only [cond_false] at h4
  obtain ⟨⟨u0, v0⟩, k0⟩ := kst_back (show (kst n0 d0 s0 a0 j0 l0 h0 n1 d1 s1 a1 j1 l1 h1 n2 d2 s2 a2 j2 l2 h2 n3 d3 s3 a3 j3 l3 h3 xy tk 0 x).2 = 0 by simpa using t0)
  cases t1 : ((kst n0 d0 s0 a0 j0 l0 h0 n1 d1 s1 a1 j1 l1 h1 n2 d2 s2 a2 j2 l2 h2 n3 d3 s3 a3 j3 l3 h3 xy tk 1 y).2 != 0)
  case true => rw [t1] at h4; simp only [cond_true] at h4; rw [h4] at t1; cases t1
  rw [t1] at h4
  simp only [cond_false] at h4
  obtain ⟨⟨u1, v1⟩, k1⟩ := kst_back (show (kst n0 d0 s0 a0 j0 l0 h0 n1 d1 s1 a1 j1 l1 h1 n2 d2 s2 a2 j2 l2 h2 n3 d3 s3 a3 j3 l3 h3 xy tk 1 y).2 = 0 by simpa using t1)
  cases t2 : ((kst n0 d0 s0 a0 j0 l0 h0 n1 d1 s1 a1 j1 l1 h1 n2 d2 s2 a2 j2 l2 h2 n3 d3 s3 a3 j3 l3 h3 xy tk 2 z).2 != 0)
  case true => rw [t2] at h4; simp only [cond_true] at h4; rw [h4] at t2; cases t2
  rw [t2] at h4
  simp only [cond_false] at h4
  obtain ⟨⟨u2, v2⟩, k2⟩ := kst_back (show (kst n0 d0 s0 a0 j0 l0 h0 n1 d1 s1 a1 j1 l1 h1 n2 d2 s2 a2 j2 l2 h2 n3 d3 s3 a3 j3 l3 h3 xy tk 2 z).2 = 0 by simpa using t2)
  cases t3 : ((kst n0 d0 s0 a0 j0 l0 h0 n1 d1 s1 a1 j1 l1 h1 n2 d2 s2 a2 j2 l2 h2 n3 d3 s3 a3 j3 l3 h3 xy tk 3 e).2 != 0)
  case true => rw [t3] at h4; simp only [cond_true] at h4; rw [h4] at t3; cases t3
  rw [t3] at h4
  simp only [cond_false] at h4
  obtain ⟨⟨u3, v3⟩, k3⟩ := kst_back (show (kst n0 d0 s0 a0 j0 l0 h0 n1 d1 s1 a1 j1 l1 h1 n2 d2 s2 a2 j2 l2 h2 n3 d3 s3 a3 j3 l3 h3 xy tk 3 e).2 = 0 by simpa using t3)
  clear h4
  simp only [mo0, mo1, mo2, mo3, i1, i2, i3, t0, t1, t2, t3, cond_false]
  generalize (kst n0 d0 s0 a0 j0 l0 h0 n1 d1 s1 a1 j1 l1 h1 n2 d2 s2 a2 j2 l2 h2 n3 d3 s3 a3 j3 l3 h3 xy tk 0 x).1 = q0 at *
  generalize (kst n0 d0 s0 a0 j0 l0 h0 n1 d1 s1 a1 j1 l1 h1 n2 d2 s2 a2 j2 l2 h2 n3 d3 s3 a3 j3 l3 h3 xy tk 1 y).1 = q1 at *
  generalize (kst n0 d0 s0 a0 j0 l0 h0 n1 d1 s1 a1 j1 l1 h1 n2 d2 s2 a2 j2 l2 h2 n3 d3 s3 a3 j3 l3 h3 xy tk 2 z).1 = q2 at *
  generalize (kst n0 d0 s0 a0 j0 l0 h0 n1 d1 s1 a1 j1 l1 h1 n2 d2 s2 a2 j2 l2 h2 n3 d3 s3 a3 j3 l3 h3 xy tk 3 e).1 = q3 at *
  cases xy
  · simp only [cond_false, po0, po1, po2, po3, po4, i1, i2, i3, near_t (p := q0) (by omega) (by omega), near_t (p := q1) (by omega) (by omega), near_t (p := q2) (by omega) (by omega), near_t (p := q3) (by omega) (by omega), Bool.not_true, k0, k1, k2, k3]
    simp
  · obtain ⟨f0, f1⟩ := half_back u0 v0 u1 v1
    have w1 : IntKind.wrap IntKind.i64 (q0 + q1) = q0 + q1 := IntWalk.i64_in _ (by omega)
    have w2 : IntKind.wrap IntKind.i64 (q0 - q1) = q0 - q1 := IntWalk.i64_in _ (by omega)
    have r0 := near_t (p := IntKind.wrap IntKind.i64 (q0 + q1)) (by omega) (by omega)
    have r1 := near_t (p := IntKind.wrap IntKind.i64 (q0 - q1)) (by omega) (by omega)
    simp only [cond_true, po0, po1, po2, po3, po4, i1, i2, i3, r0, r1, f0, f1, near_t (p := q2) (by omega) (by omega), near_t (p := q3) (by omega) (by omega), Bool.not_true, cond_false, k0, k1, k2, k3]
    simp
end Go.Proofs.Ythgmacoljkljfaa
