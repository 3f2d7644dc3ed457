/-
  Layer 43: Accel.
-/
import Derived.Test.YtaccdpdabmchkaaProg
import Derived.Test.YtaccdpdabmchkaaFvX
import Derived.Test.YtaccdpdabmchkaaFvZ
import Derived.Test.YtaccdpdabmchkaaAut
import Derived.Test.YtaccdpdabmchkaaLmA
namespace Go.Proofs.Ytaccdpdabmchkaa
open Go
theorem ab_zero : ab 0 = 0 := rfl
theorem ab_eq {x : Int} (k : Int) (h : -k ≤ x) (g : x ≤ k) : 0 ≤ ab x ∧ ab x ≤ k ∧ (x ≠ 0 → ab x ≠ 0) := by
  unfold ab; split <;> omega
theorem inS_of {x : Int} (h : -4611686018427387904 ≤ x) (g : x ≤ 4611686018427387904) : inS x = true := by simp [inS]; omega
theorem inR_of {x : Int} (h : -9223372036854775808 ≤ x) (g : x ≤ 9223372036854775807) : inR x = true := by simp [inR]; omega
theorem nz (x : Int) : ((x != 0) = false ∧ ab x = 0) ∨ ((x != 0) = true ∧ True) := by
  by_cases h : x = 0
  · subst h; exact .inl ⟨rfl, rfl⟩
  · exact .inr ⟨by simpa using h, trivial⟩
theorem zz : ((0 : Int) != 0) = false := rfl
theorem nz2 (x : Int) : ((x != 0) = false ∧ x = 0) ∨ ((x != 0) = true ∧ True) := by
  by_cases h : x = 0
  · subst h; exact .inl ⟨rfl, rfl⟩
  · exact .inr ⟨by simpa using h, trivial⟩
theorem lea_assoc (n x y z c : Int) : lea n (x * y) z c = lea n x (y * z) c := by
  unfold lea; rw [Int.mul_assoc]
set_option maxHeartbeats 4000000 in
theorem kv_spec {n0 d0 s0 a0 j0 l0 h0 n1 d1 s1 a1 j1 l1 h1 n2 d2 s2 a2 j2 l2 h2 n3 d3 s3 a3 j3 l3 h3 : Int} {xy : Bool} {tk : Int} (h : kv0 n0 d0 s0 a0 j0 l0 h0 n1 d1 s1 a1 j1 l1 h1 n2 d2 s2 a2 j2 l2 h2 n3 d3 s3 a3 j3 l3 h3 xy tk = true) : (1 ≤ s0 ∧ s0 ≤ 1048576 ∧ 1 ≤ s1 ∧ s1 ≤ 1048576 ∧ 1 ≤ s2 ∧ s2 ≤ 1048576 ∧ 1 ≤ s3 ∧ s3 ≤ 1048576) ∧ (1 ≤ a0 ∧ a0 ≤ 16777216 ∧ 1 ≤ a1 ∧ a1 ≤ 16777216 ∧ 1 ≤ a2 ∧ a2 ≤ 16777216 ∧ 1 ≤ a3 ∧ a3 ≤ 16777216) ∧ (1 ≤ j0 ∧ j0 ≤ 1048576 ∧ 1 ≤ j1 ∧ j1 ≤ 1048576 ∧ 1 ≤ j2 ∧ j2 ≤ 1048576 ∧ 1 ≤ j3 ∧ j3 ≤ 1048576) := by
  unfold kv0 at h
  simp only [Bool.cond_eq_ite] at h
  simp at h
  omega
theorem sp_max (x : Int) : (bif decide (x < 1) then 1 else x) = if x > 1 then x else 1 := by
  by_cases h : x < 1
  · have : ¬ x > 1 := by omega
    simp [h]; omega
  · by_cases g : x > 1
    · simp [h, g]
    · simp [h]; omega
theorem mul_bd {x y X Y : Int} (h : -X ≤ x ∧ x ≤ X) (g : 0 ≤ y ∧ y ≤ Y) (hX : 0 ≤ X) : -(X * Y) ≤ x * y ∧ x * y ≤ X * Y := by
  have h1 : x * y ≤ X * y := Int.mul_le_mul_of_nonneg_right h.2 g.1
  have h2 : X * y ≤ X * Y := Int.mul_le_mul_of_nonneg_left g.2 hX
  have h3 : (-X) * y ≤ x * y := Int.mul_le_mul_of_nonneg_right h.1 g.1
  have h4 : (-X) * y = -(X * y) := Int.neg_mul _ _
  omega
def acE (a0 a1 a2 a3 a b c d : Int) : Int := lea (lea (lea (lea (16777216 : Int) a0 (dom a b c d) (ab a)) a1 (dom a b c d) (ab b)) a2 (dom a b c d) (ab c)) a3 (dom a b c d) (ab d)
set_option maxRecDepth 100000 in
theorem acc_tree (n0 : Int) (d0 : Int) (s0 : Int) (a0 : Int) (j0 : Int) (l0 : Int) (h0 : Int) (n1 : Int) (d1 : Int) (s1 : Int) (a1 : Int) (j1 : Int) (l1 : Int) (h1 : Int) (n2 : Int) (d2 : Int) (s2 : Int) (a2 : Int) (j2 : Int) (l2 : Int) (h2 : Int) (n3 : Int) (d3 : Int) (s3 : Int) (a3 : Int) (j3 : Int) (l3 : Int) (h3 : Int) (xy : Bool) (tk : Int) (a : Int) (b : Int) (c : Int) (d : Int) : evalF Try.prog lmA_S13 (opens []) L0 9 9 [.ag [.v false (.int .i64 n0), .v false (.int .i64 d0), .v false (.int .i64 s0), .v false (.int .i64 a0), .v false (.int .i64 j0), .v false (.int .i64 l0), .v false (.int .i64 h0), .v false (.int .i64 n1), .v false (.int .i64 d1), .v false (.int .i64 s1), .v false (.int .i64 a1), .v false (.int .i64 j1), .v false (.int .i64 l1), .v false (.int .i64 h1), .v false (.int .i64 n2), .v false (.int .i64 d2), .v false (.int .i64 s2), .v false (.int .i64 a2), .v false (.int .i64 j2), .v false (.int .i64 l2), .v false (.int .i64 h2), .v false (.int .i64 n3), .v false (.int .i64 d3), .v false (.int .i64 s3), .v false (.int .i64 a3), .v false (.int .i64 j3), .v false (.int .i64 l3), .v false (.int .i64 h3), .v false (.bool xy), .v false (.int .i64 tk)], .ag [.v false (.int .i64 a), .v false (.int .i64 b), .v false (.int .i64 c), .v false (.int .i64 d)]] = .br ((bif bif !kv0 n0 d0 s0 a0 j0 l0 h0 n1 d1 s1 a1 j1 l1 h1 n2 d2 s2 a2 j2 l2 h2 n3 d3 s3 a3 j3 l3 h3 xy tk then true else !dval a b c d then true else ((inS a) && ((inR a0 && inR (dom a b c d) && inR (ab a)) && ((inS b) && ((inR a1 && inR (dom a b c d) && inR (ab b)) && ((inS c) && ((inR a2 && inR (dom a b c d) && inR (ab c)) && ((inS d) && (inR a3 && inR (dom a b c d) && inR (ab d))))))))))) (.ret (.one (.v false (.int .i64 (bif bif !kv0 n0 d0 s0 a0 j0 l0 h0 n1 d1 s1 a1 j1 l1 h1 n2 d2 s2 a2 j2 l2 h2 n3 d3 s3 a3 j3 l3 h3 xy tk then true else !dval a b c d then (0 : Int) else lea (lea (lea (lea (16777216 : Int) a0 (dom a b c d) (ab a)) a1 (dom a b c d) (ab b)) a2 (dom a b c d) (ab c)) a3 (dom a b c d) (ab d)))))) (.bad 116) := by kernel_rfl
set_option maxHeartbeats 4000000 in
theorem acc_val (n0 : Int) (d0 : Int) (s0 : Int) (a0 : Int) (j0 : Int) (l0 : Int) (h0 : Int) (n1 : Int) (d1 : Int) (s1 : Int) (a1 : Int) (j1 : Int) (l1 : Int) (h1 : Int) (n2 : Int) (d2 : Int) (s2 : Int) (a2 : Int) (j2 : Int) (l2 : Int) (h2 : Int) (n3 : Int) (d3 : Int) (s3 : Int) (a3 : Int) (j3 : Int) (l3 : Int) (h3 : Int) (xy : Bool) (tk : Int) (a : Int) (b : Int) (c : Int) (d : Int) : (.br ((bif bif !kv0 n0 d0 s0 a0 j0 l0 h0 n1 d1 s1 a1 j1 l1 h1 n2 d2 s2 a2 j2 l2 h2 n3 d3 s3 a3 j3 l3 h3 xy tk then true else !dval a b c d then true else ((inS a) && ((inR a0 && inR (dom a b c d) && inR (ab a)) && ((inS b) && ((inR a1 && inR (dom a b c d) && inR (ab b)) && ((inS c) && ((inR a2 && inR (dom a b c d) && inR (ab c)) && ((inS d) && (inR a3 && inR (dom a b c d) && inR (ab d))))))))))) (.ret (.one (.v false (.int .i64 (bif bif !kv0 n0 d0 s0 a0 j0 l0 h0 n1 d1 s1 a1 j1 l1 h1 n2 d2 s2 a2 j2 l2 h2 n3 d3 s3 a3 j3 l3 h3 xy tk then true else !dval a b c d then (0 : Int) else lea (lea (lea (lea (16777216 : Int) a0 (dom a b c d) (ab a)) a1 (dom a b c d) (ab b)) a2 (dom a b c d) (ab c)) a3 (dom a b c d) (ab d)))))) (.bad 116) : Tr AV).val = some (.one (.v false (.int .i64 (bif kv0 n0 d0 s0 a0 j0 l0 h0 n1 d1 s1 a1 j1 l1 h1 n2 d2 s2 a2 j2 l2 h2 n3 d3 s3 a3 j3 l3 h3 xy tk && dval a b c d then acE a0 a1 a2 a3 a b c d else 0)))) := by
  show cond _ _ _ = _
  cases hk : kv0 n0 d0 s0 a0 j0 l0 h0 n1 d1 s1 a1 j1 l1 h1 n2 d2 s2 a2 j2 l2 h2 n3 d3 s3 a3 j3 l3 h3 xy tk
  · simp only [Bool.not_false, cond_true, Bool.false_and, cond_false, Tr.val]
  · cases hd : dval a b c d
    · simp only [Bool.not_true, Bool.not_false, cond_true, cond_false, Bool.and_false, Tr.val]
    · have hn := dom_in a b c d
      obtain ⟨e0, e1, e2, e3, _⟩ := dv_iff.1 hd
      obtain ⟨⟨_, _, _, _, _, _, _, _⟩, ⟨_, _, _, _, _, _, _, _⟩, ⟨_, _, _, _, _, _, _, _⟩⟩ := kv_spec hk
      have za := ab_eq 16777216 (x := a) (by omega) e0.2
      have sa : inS a = true := inS_of (by omega) (by omega)
      have ra : inR (ab a) = true := inR_of (by omega) (by omega)
      have zb := ab_eq 16777216 (x := b) (by omega) e1.2
      have sb : inS b = true := inS_of (by omega) (by omega)
      have rb : inR (ab b) = true := inR_of (by omega) (by omega)
      have zc := ab_eq 16777216 (x := c) (by omega) e2.2
      have sc : inS c = true := inS_of (by omega) (by omega)
      have rc : inR (ab c) = true := inR_of (by omega) (by omega)
      have zd := ab_eq 16777216 (x := d) (by omega) e3.2
      have sd : inS d = true := inS_of (by omega) (by omega)
      have rd : inR (ab d) = true := inR_of (by omega) (by omega)
      have rn : inR (dom a b c d) = true := inR_of (by omega) (by omega)
      have q0 : inR a0 = true := inR_of (by omega) (by omega)
      have q1 : inR a1 = true := inR_of (by omega) (by omega)
      have q2 : inR a2 = true := inR_of (by omega) (by omega)
      have q3 : inR a3 = true := inR_of (by omega) (by omega)
      simp only [sa, ra, sb, rb, sc, rc, sd, rd, rn, q0, q1, q2, q3, acE, Bool.not_true, cond_false, cond_true, Bool.and_self, Bool.true_and, Tr.val]
def acc_p1 (z_1 : AV) (n0 : Int) (d0 : Int) (s0 : Int) (a0 : Int) (j0 : Int) (l0 : Int) (h0 : Int) (n1 : Int) (d1 : Int) (s1 : Int) (a1 : Int) (j1 : Int) (l1 : Int) (h1 : Int) (n2 : Int) (d2 : Int) (s2 : Int) (a2 : Int) (j2 : Int) (l2 : Int) (h2 : Int) (n3 : Int) (d3 : Int) (s3 : Int) (a3 : Int) (j3 : Int) (l3 : Int) (h3 : Int) (xy : Bool) (tk : Int) : Option (Tr AV) :=
  match z_1 with
  | .ag [.v _ (.int .i64 a), .v _ (.int .i64 b), .v _ (.int .i64 c), .v _ (.int .i64 d)] => some (.ret (.one (.v false (.int .i64 (bif kv0 n0 d0 s0 a0 j0 l0 h0 n1 d1 s1 a1 j1 l1 h1 n2 d2 s2 a2 j2 l2 h2 n3 d3 s3 a3 j3 l3 h3 xy tk && dval a b c d then acE a0 a1 a2 a3 a b c d else 0)))))
  | _ => none
def acc_p0 (z_0 : AV) (z_1 : AV)  : Option (Tr AV) :=
  match z_0 with
  | .ag [.v _ (.int .i64 n0), .v _ (.int .i64 d0), .v _ (.int .i64 s0), .v _ (.int .i64 a0), .v _ (.int .i64 j0), .v _ (.int .i64 l0), .v _ (.int .i64 h0), .v _ (.int .i64 n1), .v _ (.int .i64 d1), .v _ (.int .i64 s1), .v _ (.int .i64 a1), .v _ (.int .i64 j1), .v _ (.int .i64 l1), .v _ (.int .i64 h1), .v _ (.int .i64 n2), .v _ (.int .i64 d2), .v _ (.int .i64 s2), .v _ (.int .i64 a2), .v _ (.int .i64 j2), .v _ (.int .i64 l2), .v _ (.int .i64 h2), .v _ (.int .i64 n3), .v _ (.int .i64 d3), .v _ (.int .i64 s3), .v _ (.int .i64 a3), .v _ (.int .i64 j3), .v _ (.int .i64 l3), .v _ (.int .i64 h3), .v _ (.bool xy), .v _ (.int .i64 tk)] => acc_p1 z_1 n0 d0 s0 a0 j0 l0 h0 n1 d1 s1 a1 j1 l1 h1 n2 d2 s2 a2 j2 l2 h2 n3 d3 s3 a3 j3 l3 h3 xy tk
  | _ => none
def acc_g : List AV → Option (Tr AV)
  | [z_0, z_1] => acc_p0 z_0 z_1
  | _ => none
set_option maxHeartbeats 4000000 in
theorem acc_ok : FunOK Try.prog 9 acc_g := by
  refine fun_ok (by kernel_rfl) (lmA_S13_ok) (L0_ok _) 9 (On := (opens [])) (fun args t h => ?_)
  unfold acc_g at h
  split at h
  rotate_left
  · cases h
  unfold acc_p0 at h
  split at h
  rotate_left
  · cases h
  rename_i _ n0 _ d0 _ s0 _ a0 _ j0 _ l0 _ h0 _ n1 _ d1 _ s1 _ a1 _ j1 _ l1 _ h1 _ n2 _ d2 _ s2 _ a2 _ j2 _ l2 _ h2 _ n3 _ d3 _ s3 _ a3 _ j3 _ l3 _ h3 _ xy _ tk
  unfold acc_p1 at h
  split at h
  rotate_left
  · cases h
  rename_i _ a _ b _ c _ d
  simp only [Option.some.injEq] at h
  subst h
  refine ⟨[.ag [.v false (.int .i64 n0), .v false (.int .i64 d0), .v false (.int .i64 s0), .v false (.int .i64 a0), .v false (.int .i64 j0), .v false (.int .i64 l0), .v false (.int .i64 h0), .v false (.int .i64 n1), .v false (.int .i64 d1), .v false (.int .i64 s1), .v false (.int .i64 a1), .v false (.int .i64 j1), .v false (.int .i64 l1), .v false (.int .i64 h1), .v false (.int .i64 n2), .v false (.int .i64 d2), .v false (.int .i64 s2), .v false (.int .i64 a2), .v false (.int .i64 j2), .v false (.int .i64 l2), .v false (.int .i64 h2), .v false (.int .i64 n3), .v false (.int .i64 d3), .v false (.int .i64 s3), .v false (.int .i64 a3), .v false (.int .i64 j3), .v false (.int .i64 l3), .v false (.int .i64 h3), .v false (.bool xy), .v false (.int .i64 tk)], .ag [.v false (.int .i64 a), .v false (.int .i64 b), .v false (.int .i64 c), .v false (.int .i64 d)]], rfl, fun fr w us h => h, fun r hr => ?_⟩
  simp only [Tr.val, Option.some.injEq] at hr
  subst hr
  rw [acc_tree]
  exact acc_val n0 d0 s0 a0 j0 l0 h0 n1 d1 s1 a1 j1 l1 h1 n2 d2 s2 a2 j2 l2 h2 n3 d3 s3 a3 j3 l3 h3 xy tk a b c d
def lmB_S81 : Sums := addS 9 acc_g lmA_S13
theorem lmB_S81_ok : SumOK Try.prog lmB_S81 := addS_ok (acc_ok) (lmA_S13_ok)
end Go.Proofs.Ytaccdpdabmchkaa
