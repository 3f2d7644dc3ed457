/-
  The laws KinSteps, KinNearest, KinMonotone.
-/
import Derived.Test.YthgmacoljkljfaaProg
import Derived.Test.YthgmacoljkljfaaEvK
import Derived.Test.YthgmacoljkljfaaKiA
import Derived.Test.YthgmacoljkljfaaRnd
namespace Go.Proofs.Ythgmacoljkljfaa
open Go
/-- A number of 64 bits. -/
def inR (n : Int) : Bool := decide (-9223372036854775808 ≤ n) && decide (n ≤ 9223372036854775807)
def nr_g : List (Bool × Value) → Option (Tr (Bool × Value)) := fun z_args => un z_args fun z_a0 z_args0 => unI .i64 z_a0.2 fun a => un z_args0 fun z_a1 z_args1 => unI .i64 z_a1.2 fun b => unE z_args1 <| some (.br (inR a && inR b) (.ret ((z_a0.1 && z_a1.1), .tuple #[.int .i64 (rnd a b).1, .int .i64 (rnd a b).2])) (.bad 900))
theorem nr_ok : ∀ args t, nr_g args = some t → ∀ r, t.val = some r → ∀ w, Calls Try.prog 42 (args.map (·.2)).toArray w fun e w' => e = .returned r.2 ∧ Ext w w' := by
  intro z_args z_t z_h0 z_r z_hr z_w
  unfold nr_g at z_h0
  obtain ⟨z_a0, z_args0, rfl, z_h1⟩ := un_some z_h0
  obtain ⟨z_kn0, z_v0⟩ := z_a0
  (try dsimp only at z_h1)
  obtain ⟨a, rfl, z_h2⟩ := unI_some z_h1
  obtain ⟨z_a1, z_args1, rfl, z_h3⟩ := un_some z_h2
  obtain ⟨z_kn1, z_v1⟩ := z_a1
  (try dsimp only at z_h3)
  obtain ⟨b, rfl, z_h4⟩ := unI_some z_h3
  obtain ⟨rfl, z_h5⟩ := unE_some z_h4
  simp only [Option.some.injEq] at z_h5
  subst z_h5
  obtain ⟨r1, hr1, hr2⟩ : ∃ r1, (inR a && inR b) = true ∧ z_r = (r1, .tuple #[.int .i64 (rnd a b).1, .int .i64 (rnd a b).2]) := by
    cases hb : (inR a && inR b)
    · rw [hb] at z_hr; cases z_hr
    · rw [hb] at z_hr; exact ⟨_, rfl, (Option.some.inj z_hr).symm⟩
  subst hr2
  simp only [inR, Bool.and_eq_true, decide_eq_true_eq] at hr1
  refine (num_Round a b hr1.1.1 hr1.1.2 hr1.2.1 hr1.2.2 z_w).mono ?_
  rintro e w' ⟨rfl, hx⟩
  exact ⟨rfl, hx⟩
def kiC_S1 : Sums := addS 42 nr_g kiA_S6
theorem kiC_S1_ok : SumOK Try.prog kiC_S1 := addS_ok nr_ok (kiA_S6_ok)
theorem rr_ok : ∀ args t, nr_g args = some t → ∀ r, t.val = some r → ∀ w, Calls Try.prog 43 (args.map (·.2)).toArray w fun e w' => e = .returned r.2 ∧ Ext w w' := by
  intro z_args z_t z_h0 z_r z_hr z_w
  unfold nr_g at z_h0
  obtain ⟨z_a0, z_args0, rfl, z_h1⟩ := un_some z_h0
  obtain ⟨z_kn0, z_v0⟩ := z_a0
  (try dsimp only at z_h1)
  obtain ⟨a, rfl, z_h2⟩ := unI_some z_h1
  obtain ⟨z_a1, z_args1, rfl, z_h3⟩ := un_some z_h2
  obtain ⟨z_kn1, z_v1⟩ := z_a1
  (try dsimp only at z_h3)
  obtain ⟨b, rfl, z_h4⟩ := unI_some z_h3
  obtain ⟨rfl, z_h5⟩ := unE_some z_h4
  simp only [Option.some.injEq] at z_h5
  subst z_h5
  obtain ⟨r1, hr1, hr2⟩ : ∃ r1, (inR a && inR b) = true ∧ z_r = (r1, .tuple #[.int .i64 (rnd a b).1, .int .i64 (rnd a b).2]) := by
    cases hb : (inR a && inR b)
    · rw [hb] at z_hr; cases z_hr
    · rw [hb] at z_hr; exact ⟨_, rfl, (Option.some.inj z_hr).symm⟩
  subst hr2
  simp only [inR, Bool.and_eq_true, decide_eq_true_eq] at hr1
  refine (ref_Round a b hr1.1.1 hr1.1.2 hr1.2.1 hr1.2.2 z_w).mono ?_
  rintro e w' ⟨rfl, hx⟩
  exact ⟨rfl, hx ▸ Ext.refl _⟩
def kiC_S2 : Sums := addS 43 nr_g kiC_S1
theorem kiC_S2_ok : SumOK Try.prog kiC_S2 := addS_ok rr_ok (kiC_S1_ok)
/-- The number of an axis. -/
def ax (i a b c d : Int) : Int := if i = 0 then a else if i = 1 then b else if i = 2 then c else d
theorem vax_spec {n d s a j l h : Int} (hv : vax0 n d s a j l h = true) : 1 ≤ n ∧ n ≤ 65536 ∧ 1 ≤ d ∧ d ≤ n := by
  simp only [vax0] at hv
  simp at hv
  omega
theorem kv_spec {n0 d0 s0 a0 j0 l0 h0 n1 d1 s1 a1 j1 l1 h1 n2 d2 s2 a2 j2 l2 h2 n3 d3 s3 a3 j3 l3 h3 : Int} {xy : Bool} {tk : Int} (hv : kv0 n0 d0 s0 a0 j0 l0 h0 n1 d1 s1 a1 j1 l1 h1 n2 d2 s2 a2 j2 l2 h2 n3 d3 s3 a3 j3 l3 h3 xy tk = true) :
    (1 ≤ n0 ∧ n0 ≤ 65536 ∧ 1 ≤ d0 ∧ d0 ≤ n0) ∧ (1 ≤ n1 ∧ n1 ≤ 65536 ∧ 1 ≤ d1 ∧ d1 ≤ n1) ∧ (1 ≤ n2 ∧ n2 ≤ 65536 ∧ 1 ≤ d2 ∧ d2 ≤ n2) ∧ (1 ≤ n3 ∧ n3 ≤ 65536 ∧ 1 ≤ d3 ∧ d3 ≤ n3) := by
  unfold kv0 at hv
  cases e0 : vax0 n0 d0 s0 a0 j0 l0 h0
  · rw [e0] at hv; cases hv
  cases e1 : vax0 n1 d1 s1 a1 j1 l1 h1
  · rw [e0, e1] at hv; cases hv
  cases e2 : vax0 n2 d2 s2 a2 j2 l2 h2
  · rw [e0, e1, e2] at hv; cases hv
  cases e3 : vax0 n3 d3 s3 a3 j3 l3 h3
  · rw [e0, e1, e2, e3] at hv; cases hv
  exact ⟨vax_spec e0, vax_spec e1, vax_spec e2, vax_spec e3⟩
theorem wrap_mul {p n k : Int} (hk : 0 ≤ k) (hk' : k ≤ 70368744177664) (p0 : -k ≤ p) (p1 : p ≤ k) (n0 : 1 ≤ n) (n1 : n ≤ 65536) : IntKind.wrap IntKind.i64 (p * n) = p * n ∧ inR (p * n) = true := by
  have := mul_in (a := p) (b := n) (k := k) (m := 65536) p0 p1 (by omega) (by omega)
  have w : IntKind.wrap IntKind.i64 (p * n) = p * n := IntWalk.i64_in _ (by omega)
  exact ⟨w, by simp only [inR, Bool.and_eq_true, decide_eq_true_eq]; omega⟩
theorem inR_of {d n : Int} (d0 : 1 ≤ d) (d1 : d ≤ n) (n1 : n ≤ 65536) : inR d = true := by
  simp only [inR, Bool.and_eq_true, decide_eq_true_eq]; omega
def kst (n0 d0 s0 a0 j0 l0 h0 n1 d1 s1 a1 j1 l1 h1 n2 d2 s2 a2 j2 l2 h2 n3 d3 s3 a3 j3 l3 h3 : Int) (xy : Bool) (tk : Int) (i p : Int) : Int × Int := if kv0 n0 d0 s0 a0 j0 l0 h0 n1 d1 s1 a1 j1 l1 h1 n2 d2 s2 a2 j2 l2 h2 n3 d3 s3 a3 j3 l3 h3 xy tk = true ∧ 0 ≤ i ∧ i ≤ 3 ∧ -1073741824 ≤ p ∧ p ≤ 1073741824 then rnd (p * ax i n0 n1 n2 n3) (ax i d0 d1 d2 d3) else (0, 1)
def kun (n0 d0 s0 a0 j0 l0 h0 n1 d1 s1 a1 j1 l1 h1 n2 d2 s2 a2 j2 l2 h2 n3 d3 s3 a3 j3 l3 h3 : Int) (xy : Bool) (tk : Int) (i p : Int) : Int × Int := if kv0 n0 d0 s0 a0 j0 l0 h0 n1 d1 s1 a1 j1 l1 h1 n2 d2 s2 a2 j2 l2 h2 n3 d3 s3 a3 j3 l3 h3 xy tk = true ∧ 0 ≤ i ∧ i ≤ 3 ∧ -70368744177664 ≤ p ∧ p ≤ 70368744177664 then rnd (p * ax i d0 d1 d2 d3) (ax i n0 n1 n2 n3) else (0, 1)
set_option maxRecDepth 100000 in
theorem ks_tree (n0 d0 s0 a0 j0 l0 h0 n1 d1 s1 a1 j1 l1 h1 n2 d2 s2 a2 j2 l2 h2 n3 d3 s3 a3 j3 l3 h3 : Int) (xy : Bool) (tk i p : Int) : evalF Try.prog kiC_S2 6 20 [(false, .agg #[.int .i64 n0, .int .i64 d0, .int .i64 s0, .int .i64 a0, .int .i64 j0, .int .i64 l0, .int .i64 h0, .int .i64 n1, .int .i64 d1, .int .i64 s1, .int .i64 a1, .int .i64 j1, .int .i64 l1, .int .i64 h1, .int .i64 n2, .int .i64 d2, .int .i64 s2, .int .i64 a2, .int .i64 j2, .int .i64 l2, .int .i64 h2, .int .i64 n3, .int .i64 d3, .int .i64 s3, .int .i64 a3, .int .i64 j3, .int .i64 l3, .int .i64 h3, .bool xy, .int .i64 tk]), (false, .int .i64 i), (false, .int .i64 p)] = .br (bif bif !kv0 n0 d0 s0 a0 j0 l0 h0 n1 d1 s1 a1 j1 l1 h1 n2 d2 s2 a2 j2 l2 h2 n3 d3 s3 a3 j3 l3 h3 xy tk then true else !bif decide ((0 : Int) ≤ i) then decide (i ≤ (3 : Int)) else false then true else !bif decide ((-1073741824 : Int) ≤ p) then decide (p ≤ (1073741824 : Int)) else false) (.ret (true, .tuple #[.int .i64 (0), .int .i64 (1)])) (.br (i == ↑(0 : Nat)) (.br (i == ↑(0 : Nat)) (.br (inR (IntKind.wrap IntKind.i64 (p * n0)) && inR d0) (.ret (false, .tuple #[.int .i64 (Prod.fst (rnd (IntKind.wrap IntKind.i64 (p * n0)) d0)), .int .i64 (Prod.snd (rnd (IntKind.wrap IntKind.i64 (p * n0)) d0))])) (.bad 900)) (.br (i == ↑((0 : Nat) + (1 : Nat))) (.br (inR (IntKind.wrap IntKind.i64 (p * n0)) && inR d1) (.ret (false, .tuple #[.int .i64 (Prod.fst (rnd (IntKind.wrap IntKind.i64 (p * n0)) d1)), .int .i64 (Prod.snd (rnd (IntKind.wrap IntKind.i64 (p * n0)) d1))])) (.bad 900)) (.br (i == ↑((0 : Nat) + (1 : Nat) + (1 : Nat))) (.br (inR (IntKind.wrap IntKind.i64 (p * n0)) && inR d2) (.ret (false, .tuple #[.int .i64 (Prod.fst (rnd (IntKind.wrap IntKind.i64 (p * n0)) d2)), .int .i64 (Prod.snd (rnd (IntKind.wrap IntKind.i64 (p * n0)) d2))])) (.bad 900)) (.br (i == ↑((0 : Nat) + (1 : Nat) + (1 : Nat) + (1 : Nat))) (.br (inR (IntKind.wrap IntKind.i64 (p * n0)) && inR d3) (.ret (false, .tuple #[.int .i64 (Prod.fst (rnd (IntKind.wrap IntKind.i64 (p * n0)) d3)), .int .i64 (Prod.snd (rnd (IntKind.wrap IntKind.i64 (p * n0)) d3))])) (.bad 900)) (.bad 1))))) (.br (i == ↑((0 : Nat) + (1 : Nat))) (.br (i == ↑(0 : Nat)) (.br (inR (IntKind.wrap IntKind.i64 (p * n1)) && inR d0) (.ret (false, .tuple #[.int .i64 (Prod.fst (rnd (IntKind.wrap IntKind.i64 (p * n1)) d0)), .int .i64 (Prod.snd (rnd (IntKind.wrap IntKind.i64 (p * n1)) d0))])) (.bad 900)) (.br (i == ↑((0 : Nat) + (1 : Nat))) (.br (inR (IntKind.wrap IntKind.i64 (p * n1)) && inR d1) (.ret (false, .tuple #[.int .i64 (Prod.fst (rnd (IntKind.wrap IntKind.i64 (p * n1)) d1)), .int .i64 (Prod.snd (rnd (IntKind.wrap IntKind.i64 (p * n1)) d1))])) (.bad 900)) (.br (i == ↑((0 : Nat) + (1 : Nat) + (1 : Nat))) (.br (inR (IntKind.wrap IntKind.i64 (p * n1)) && inR d2) (.ret (false, .tuple #[.int .i64 (Prod.fst (rnd (IntKind.wrap IntKind.i64 (p * n1)) d2)), .int .i64 (Prod.snd (rnd (IntKind.wrap IntKind.i64 (p * n1)) d2))])) (.bad 900)) (.br (i == ↑((0 : Nat) + (1 : Nat) + (1 : Nat) + (1 : Nat))) (.br (inR (IntKind.wrap IntKind.i64 (p * n1)) && inR d3) (.ret (false, .tuple #[.int .i64 (Prod.fst (rnd (IntKind.wrap IntKind.i64 (p * n1)) d3)), .int .i64 (Prod.snd (rnd (IntKind.wrap IntKind.i64 (p * n1)) d3))])) (.bad 900)) (.bad 1))))) (.br (i == ↑((0 : Nat) + (1 : Nat) + (1 : Nat))) (.br (i == ↑(0 : Nat)) (.br (inR (IntKind.wrap IntKind.i64 (p * n2)) && inR d0) (.ret (false, .tuple #[.int .i64 (Prod.fst (rnd (IntKind.wrap IntKind.i64 (p * n2)) d0)), .int .i64 (Prod.snd (rnd (IntKind.wrap IntKind.i64 (p * n2)) d0))])) (.bad 900)) (.br (i == ↑((0 : Nat) + (1 : Nat))) (.br (inR (IntKind.wrap IntKind.i64 (p * n2)) && inR d1) (.ret (false, .tuple #[.int .i64 (Prod.fst (rnd (IntKind.wrap IntKind.i64 (p * n2)) d1)), .int .i64 (Prod.snd (rnd (IntKind.wrap IntKind.i64 (p * n2)) d1))])) (.bad 900)) (.br (i == ↑((0 : Nat) + (1 : Nat) + (1 : Nat))) (.br (inR (IntKind.wrap IntKind.i64 (p * n2)) && inR d2) (.ret (false, .tuple #[.int .i64 (Prod.fst (rnd (IntKind.wrap IntKind.i64 (p * n2)) d2)), .int .i64 (Prod.snd (rnd (IntKind.wrap IntKind.i64 (p * n2)) d2))])) (.bad 900)) (.br (i == ↑((0 : Nat) + (1 : Nat) + (1 : Nat) + (1 : Nat))) (.br (inR (IntKind.wrap IntKind.i64 (p * n2)) && inR d3) (.ret (false, .tuple #[.int .i64 (Prod.fst (rnd (IntKind.wrap IntKind.i64 (p * n2)) d3)), .int .i64 (Prod.snd (rnd (IntKind.wrap IntKind.i64 (p * n2)) d3))])) (.bad 900)) (.bad 1))))) (.br (i == ↑((0 : Nat) + (1 : Nat) + (1 : Nat) + (1 : Nat))) (.br (i == ↑(0 : Nat)) (.br (inR (IntKind.wrap IntKind.i64 (p * n3)) && inR d0) (.ret (false, .tuple #[.int .i64 (Prod.fst (rnd (IntKind.wrap IntKind.i64 (p * n3)) d0)), .int .i64 (Prod.snd (rnd (IntKind.wrap IntKind.i64 (p * n3)) d0))])) (.bad 900)) (.br (i == ↑((0 : Nat) + (1 : Nat))) (.br (inR (IntKind.wrap IntKind.i64 (p * n3)) && inR d1) (.ret (false, .tuple #[.int .i64 (Prod.fst (rnd (IntKind.wrap IntKind.i64 (p * n3)) d1)), .int .i64 (Prod.snd (rnd (IntKind.wrap IntKind.i64 (p * n3)) d1))])) (.bad 900)) (.br (i == ↑((0 : Nat) + (1 : Nat) + (1 : Nat))) (.br (inR (IntKind.wrap IntKind.i64 (p * n3)) && inR d2) (.ret (false, .tuple #[.int .i64 (Prod.fst (rnd (IntKind.wrap IntKind.i64 (p * n3)) d2)), .int .i64 (Prod.snd (rnd (IntKind.wrap IntKind.i64 (p * n3)) d2))])) (.bad 900)) (.br (i == ↑((0 : Nat) + (1 : Nat) + (1 : Nat) + (1 : Nat))) (.br (inR (IntKind.wrap IntKind.i64 (p * n3)) && inR d3) (.ret (false, .tuple #[.int .i64 (Prod.fst (rnd (IntKind.wrap IntKind.i64 (p * n3)) d3)), .int .i64 (Prod.snd (rnd (IntKind.wrap IntKind.i64 (p * n3)) d3))])) (.bad 900)) (.bad 1))))) (.bad 1))))) := by kernel_rfl
def ks_g : List (Bool × Value) → Option (Tr (Bool × Value)) := fun z_args => un z_args fun z_a0 z_args0 => unA z_a0.2 fun z_c0 => un z_c0 fun z_x0_0 z_r0_0 => unI .i64 z_x0_0 fun n0 => un z_r0_0 fun z_x0_1 z_r0_1 => unI .i64 z_x0_1 fun d0 => un z_r0_1 fun z_x0_2 z_r0_2 => unI .i64 z_x0_2 fun s0 => un z_r0_2 fun z_x0_3 z_r0_3 => unI .i64 z_x0_3 fun a0 => un z_r0_3 fun z_x0_4 z_r0_4 => unI .i64 z_x0_4 fun j0 => un z_r0_4 fun z_x0_5 z_r0_5 => unI .i64 z_x0_5 fun l0 => un z_r0_5 fun z_x0_6 z_r0_6 => unI .i64 z_x0_6 fun h0 => un z_r0_6 fun z_x0_7 z_r0_7 => unI .i64 z_x0_7 fun n1 => un z_r0_7 fun z_x0_8 z_r0_8 => unI .i64 z_x0_8 fun d1 => un z_r0_8 fun z_x0_9 z_r0_9 => unI .i64 z_x0_9 fun s1 => un z_r0_9 fun z_x0_10 z_r0_10 => unI .i64 z_x0_10 fun a1 => un z_r0_10 fun z_x0_11 z_r0_11 => unI .i64 z_x0_11 fun j1 => un z_r0_11 fun z_x0_12 z_r0_12 => unI .i64 z_x0_12 fun l1 => un z_r0_12 fun z_x0_13 z_r0_13 => unI .i64 z_x0_13 fun h1 => un z_r0_13 fun z_x0_14 z_r0_14 => unI .i64 z_x0_14 fun n2 => un z_r0_14 fun z_x0_15 z_r0_15 => unI .i64 z_x0_15 fun d2 => un z_r0_15 fun z_x0_16 z_r0_16 => unI .i64 z_x0_16 fun s2 => un z_r0_16 fun z_x0_17 z_r0_17 => unI .i64 z_x0_17 fun a2 => un z_r0_17 fun z_x0_18 z_r0_18 => unI .i64 z_x0_18 fun j2 => un z_r0_18 fun z_x0_19 z_r0_19 => unI .i64 z_x0_19 fun l2 => un z_r0_19 fun z_x0_20 z_r0_20 => unI .i64 z_x0_20 fun h2 => un z_r0_20 fun z_x0_21 z_r0_21 => unI .i64 z_x0_21 fun n3 => un z_r0_21 fun z_x0_22 z_r0_22 => unI .i64 z_x0_22 fun d3 => un z_r0_22 fun z_x0_23 z_r0_23 => unI .i64 z_x0_23 fun s3 => un z_r0_23 fun z_x0_24 z_r0_24 => unI .i64 z_x0_24 fun a3 => un z_r0_24 fun z_x0_25 z_r0_25 => unI .i64 z_x0_25 fun j3 => un z_r0_25 fun z_x0_26 z_r0_26 => unI .i64 z_x0_26 fun l3 => un z_r0_26 fun z_x0_27 z_r0_27 => unI .i64 z_x0_27 fun h3 => un z_r0_27 fun z_x0_28 z_r0_28 => unB z_x0_28 fun xy => un z_r0_28 fun z_x0_29 z_r0_29 => unI .i64 z_x0_29 fun tk => unE z_r0_29 <| un z_args0 fun z_a1 z_args1 => unI .i64 z_a1.2 fun i => un z_args1 fun z_a2 z_args2 => unI .i64 z_a2.2 fun p => unE z_args2 <| some (.ret ((z_a0.1 && z_a1.1 && z_a2.1), .tuple #[.int .i64 (kst n0 d0 s0 a0 j0 l0 h0 n1 d1 s1 a1 j1 l1 h1 n2 d2 s2 a2 j2 l2 h2 n3 d3 s3 a3 j3 l3 h3 xy tk i p).1, .int .i64 (kst n0 d0 s0 a0 j0 l0 h0 n1 d1 s1 a1 j1 l1 h1 n2 d2 s2 a2 j2 l2 h2 n3 d3 s3 a3 j3 l3 h3 xy tk i p).2]))
set_option maxHeartbeats 4000000 in
theorem ks_all (n0 d0 s0 a0 j0 l0 h0 n1 d1 s1 a1 j1 l1 h1 n2 d2 s2 a2 j2 l2 h2 n3 d3 s3 a3 j3 l3 h3 : Int) (xy : Bool) (tk i p : Int) : Tr.all (fun r : Bool × Value => r.2 = .tuple #[.int .i64 (kst n0 d0 s0 a0 j0 l0 h0 n1 d1 s1 a1 j1 l1 h1 n2 d2 s2 a2 j2 l2 h2 n3 d3 s3 a3 j3 l3 h3 xy tk i p).1, .int .i64 (kst n0 d0 s0 a0 j0 l0 h0 n1 d1 s1 a1 j1 l1 h1 n2 d2 s2 a2 j2 l2 h2 n3 d3 s3 a3 j3 l3 h3 xy tk i p).2]) (.br (bif bif !kv0 n0 d0 s0 a0 j0 l0 h0 n1 d1 s1 a1 j1 l1 h1 n2 d2 s2 a2 j2 l2 h2 n3 d3 s3 a3 j3 l3 h3 xy tk then true else !bif decide ((0 : Int) ≤ i) then decide (i ≤ (3 : Int)) else false then true else !bif decide ((-1073741824 : Int) ≤ p) then decide (p ≤ (1073741824 : Int)) else false) (.ret (true, .tuple #[.int .i64 (0), .int .i64 (1)])) (.br (i == ↑(0 : Nat)) (.br (i == ↑(0 : Nat)) (.br (inR (IntKind.wrap IntKind.i64 (p * n0)) && inR d0) (.ret (false, .tuple #[.int .i64 (Prod.fst (rnd (IntKind.wrap IntKind.i64 (p * n0)) d0)), .int .i64 (Prod.snd (rnd (IntKind.wrap IntKind.i64 (p * n0)) d0))])) (.bad 900)) (.br (i == ↑((0 : Nat) + (1 : Nat))) (.br (inR (IntKind.wrap IntKind.i64 (p * n0)) && inR d1) (.ret (false, .tuple #[.int .i64 (Prod.fst (rnd (IntKind.wrap IntKind.i64 (p * n0)) d1)), .int .i64 (Prod.snd (rnd (IntKind.wrap IntKind.i64 (p * n0)) d1))])) (.bad 900)) (.br (i == ↑((0 : Nat) + (1 : Nat) + (1 : Nat))) (.br (inR (IntKind.wrap IntKind.i64 (p * n0)) && inR d2) (.ret (false, .tuple #[.int .i64 (Prod.fst (rnd (IntKind.wrap IntKind.i64 (p * n0)) d2)), .int .i64 (Prod.snd (rnd (IntKind.wrap IntKind.i64 (p * n0)) d2))])) (.bad 900)) (.br (i == ↑((0 : Nat) + (1 : Nat) + (1 : Nat) + (1 : Nat))) (.br (inR (IntKind.wrap IntKind.i64 (p * n0)) && inR d3) (.ret (false, .tuple #[.int .i64 (Prod.fst (rnd (IntKind.wrap IntKind.i64 (p * n0)) d3)), .int .i64 (Prod.snd (rnd (IntKind.wrap IntKind.i64 (p * n0)) d3))])) (.bad 900)) (.bad 1))))) (.br (i == ↑((0 : Nat) + (1 : Nat))) (.br (i == ↑(0 : Nat)) (.br (inR (IntKind.wrap IntKind.i64 (p * n1)) && inR d0) (.ret (false, .tuple #[.int .i64 (Prod.fst (rnd (IntKind.wrap IntKind.i64 (p * n1)) d0)), .int .i64 (Prod.snd (rnd (IntKind.wrap IntKind.i64 (p * n1)) d0))])) (.bad 900)) (.br (i == ↑((0 : Nat) + (1 : Nat))) (.br (inR (IntKind.wrap IntKind.i64 (p * n1)) && inR d1) (.ret (false, .tuple #[.int .i64 (Prod.fst (rnd (IntKind.wrap IntKind.i64 (p * n1)) d1)), .int .i64 (Prod.snd (rnd (IntKind.wrap IntKind.i64 (p * n1)) d1))])) (.bad 900)) (.br (i == ↑((0 : Nat) + (1 : Nat) + (1 : Nat))) (.br (inR (IntKind.wrap IntKind.i64 (p * n1)) && inR d2) (.ret (false, .tuple #[.int .i64 (Prod.fst (rnd (IntKind.wrap IntKind.i64 (p * n1)) d2)), .int .i64 (Prod.snd (rnd (IntKind.wrap IntKind.i64 (p * n1)) d2))])) (.bad 900)) (.br (i == ↑((0 : Nat) + (1 : Nat) + (1 : Nat) + (1 : Nat))) (.br (inR (IntKind.wrap IntKind.i64 (p * n1)) && inR d3) (.ret (false, .tuple #[.int .i64 (Prod.fst (rnd (IntKind.wrap IntKind.i64 (p * n1)) d3)), .int .i64 (Prod.snd (rnd (IntKind.wrap IntKind.i64 (p * n1)) d3))])) (.bad 900)) (.bad 1))))) (.br (i == ↑((0 : Nat) + (1 : Nat) + (1 : Nat))) (.br (i == ↑(0 : Nat)) (.br (inR (IntKind.wrap IntKind.i64 (p * n2)) && inR d0) (.ret (false, .tuple #[.int .i64 (Prod.fst (rnd (IntKind.wrap IntKind.i64 (p * n2)) d0)), .int .i64 (Prod.snd (rnd (IntKind.wrap IntKind.i64 (p * n2)) d0))])) (.bad 900)) (.br (i == ↑((0 : Nat) + (1 : Nat))) (.br (inR (IntKind.wrap IntKind.i64 (p * n2)) && inR d1) (.ret (false, .tuple #[.int .i64 (Prod.fst (rnd (IntKind.wrap IntKind.i64 (p * n2)) d1)), .int .i64 (Prod.snd (rnd (IntKind.wrap IntKind.i64 (p * n2)) d1))])) (.bad 900)) (.br (i == ↑((0 : Nat) + (1 : Nat) + (1 : Nat))) (.br (inR (IntKind.wrap IntKind.i64 (p * n2)) && inR d2) (.ret (false, .tuple #[.int .i64 (Prod.fst (rnd (IntKind.wrap IntKind.i64 (p * n2)) d2)), .int .i64 (Prod.snd (rnd (IntKind.wrap IntKind.i64 (p * n2)) d2))])) (.bad 900)) (.br (i == ↑((0 : Nat) + (1 : Nat) + (1 : Nat) + (1 : Nat))) (.br (inR (IntKind.wrap IntKind.i64 (p * n2)) && inR d3) (.ret (false, .tuple #[.int .i64 (Prod.fst (rnd (IntKind.wrap IntKind.i64 (p * n2)) d3)), .int .i64 (Prod.snd (rnd (IntKind.wrap IntKind.i64 (p * n2)) d3))])) (.bad 900)) (.bad 1))))) (.br (i == ↑((0 : Nat) + (1 : Nat) + (1 : Nat) + (1 : Nat))) (.br (i == ↑(0 : Nat)) (.br (inR (IntKind.wrap IntKind.i64 (p * n3)) && inR d0) (.ret (false, .tuple #[.int .i64 (Prod.fst (rnd (IntKind.wrap IntKind.i64 (p * n3)) d0)), .int .i64 (Prod.snd (rnd (IntKind.wrap IntKind.i64 (p * n3)) d0))])) (.bad 900)) (.br (i == ↑((0 : Nat) + (1 : Nat))) (.br (inR (IntKind.wrap IntKind.i64 (p * n3)) && inR d1) (.ret (false, .tuple #[.int .i64 (Prod.fst (rnd (IntKind.wrap IntKind.i64 (p * n3)) d1)), .int .i64 (Prod.snd (rnd (IntKind.wrap IntKind.i64 (p * n3)) d1))])) (.bad 900)) (.br (i == ↑((0 : Nat) + (1 : Nat) + (1 : Nat))) (.br (inR (IntKind.wrap IntKind.i64 (p * n3)) && inR d2) (.ret (false, .tuple #[.int .i64 (Prod.fst (rnd (IntKind.wrap IntKind.i64 (p * n3)) d2)), .int .i64 (Prod.snd (rnd (IntKind.wrap IntKind.i64 (p * n3)) d2))])) (.bad 900)) (.br (i == ↑((0 : Nat) + (1 : Nat) + (1 : Nat) + (1 : Nat))) (.br (inR (IntKind.wrap IntKind.i64 (p * n3)) && inR d3) (.ret (false, .tuple #[.int .i64 (Prod.fst (rnd (IntKind.wrap IntKind.i64 (p * n3)) d3)), .int .i64 (Prod.snd (rnd (IntKind.wrap IntKind.i64 (p * n3)) d3))])) (.bad 900)) (.bad 1))))) (.bad 1))))) : Tr (Bool × Value)) := by
    by_cases hv : kv0 n0 d0 s0 a0 j0 l0 h0 n1 d1 s1 a1 j1 l1 h1 n2 d2 s2 a2 j2 l2 h2 n3 d3 s3 a3 j3 l3 h3 xy tk = true
    case neg =>
      have hv' : kv0 n0 d0 s0 a0 j0 l0 h0 n1 d1 s1 a1 j1 l1 h1 n2 d2 s2 a2 j2 l2 h2 n3 d3 s3 a3 j3 l3 h3 xy tk = false := by simpa using hv
      simp [Tr.all, kst, hv']
    obtain ⟨⟨_, _, _, _⟩, ⟨_, _, _, _⟩, ⟨_, _, _, _⟩, ⟨_, _, _, _⟩⟩ := kv_spec hv
    by_cases hi : 0 ≤ i ∧ i ≤ 3 ∧ -1073741824 ≤ p ∧ p ≤ 1073741824
    case neg =>
      have hb : (bif bif !kv0 n0 d0 s0 a0 j0 l0 h0 n1 d1 s1 a1 j1 l1 h1 n2 d2 s2 a2 j2 l2 h2 n3 d3 s3 a3 j3 l3 h3 xy tk then true else !bif decide ((0 : Int) ≤ i) then decide (i ≤ (3 : Int)) else false then true else !bif decide ((-1073741824 : Int) ≤ p) then decide (p ≤ (1073741824 : Int)) else false) = true := by rw [hv]; simp; omega
      refine ⟨fun _ => ?_, fun h => ?_⟩
      · simp only [Tr.all, kst, hv]; rw [if_neg (by simpa using hi)]
      · rw [hb] at h; cases h
    obtain ⟨i0, i1, p0, p1⟩ := hi
    refine ⟨fun h => ?_, fun _ => ?_⟩
    · rw [hv] at h; simp at h; omega
    have q : kst n0 d0 s0 a0 j0 l0 h0 n1 d1 s1 a1 j1 l1 h1 n2 d2 s2 a2 j2 l2 h2 n3 d3 s3 a3 j3 l3 h3 xy tk i p = rnd (p * ax i n0 n1 n2 n3) (ax i d0 d1 d2 d3) := if_pos ⟨hv, i0, i1, p0, p1⟩
    rw [q]
    obtain ⟨w0, v0⟩ := wrap_mul (p := p) (n := n0) (k := 1073741824) (by omega) (by omega) p0 p1 (by omega) (by omega)
    obtain ⟨w1, v1⟩ := wrap_mul (p := p) (n := n1) (k := 1073741824) (by omega) (by omega) p0 p1 (by omega) (by omega)
    obtain ⟨w2, v2⟩ := wrap_mul (p := p) (n := n2) (k := 1073741824) (by omega) (by omega) p0 p1 (by omega) (by omega)
    obtain ⟨w3, v3⟩ := wrap_mul (p := p) (n := n3) (k := 1073741824) (by omega) (by omega) p0 p1 (by omega) (by omega)
    have u0 : inR d0 = true := inR_of (n := 65536) (by omega) (by omega) (by omega)
    have u1 : inR d1 = true := inR_of (n := 65536) (by omega) (by omega) (by omega)
    have u2 : inR d2 = true := inR_of (n := 65536) (by omega) (by omega) (by omega)
    have u3 : inR d3 = true := inR_of (n := 65536) (by omega) (by omega) (by omega)
    obtain rfl | rfl | rfl | rfl : i = 0 ∨ i = 1 ∨ i = 2 ∨ i = 3 := by omega
    all_goals simp [Tr.all, ax, w0, w1, w2, w3, v0, v1, v2, v3, u0, u1, u2, u3]
theorem ks_ok : ∀ args t, ks_g args = some t → ∀ r, t.val = some r → ∀ w, Calls Try.prog 20 (args.map (·.2)).toArray w fun e w' => e = .returned r.2 ∧ Ext w w' := by
  intro z_args z_t z_h0 z_r z_hr z_w
  unfold ks_g at z_h0
  obtain ⟨z_a0, z_args0, rfl, z_h1⟩ := un_some z_h0
  obtain ⟨z_kn0, z_v0⟩ := z_a0
  (try dsimp only at z_h1)
  obtain ⟨z_c0, rfl, z_h2⟩ := unA_some z_h1
  obtain ⟨z_x0_0, z_r0_0, rfl, z_h3⟩ := un_some z_h2
  obtain ⟨n0, rfl, z_h4⟩ := unI_some z_h3
  obtain ⟨z_x0_1, z_r0_1, rfl, z_h5⟩ := un_some z_h4
  obtain ⟨d0, rfl, z_h6⟩ := unI_some z_h5
  obtain ⟨z_x0_2, z_r0_2, rfl, z_h7⟩ := un_some z_h6
  obtain ⟨s0, rfl, z_h8⟩ := unI_some z_h7
  obtain ⟨z_x0_3, z_r0_3, rfl, z_h9⟩ := un_some z_h8
  obtain ⟨a0, rfl, z_h10⟩ := unI_some z_h9
  obtain ⟨z_x0_4, z_r0_4, rfl, z_h11⟩ := un_some z_h10
  obtain ⟨j0, rfl, z_h12⟩ := unI_some z_h11
  obtain ⟨z_x0_5, z_r0_5, rfl, z_h13⟩ := un_some z_h12
  obtain ⟨l0, rfl, z_h14⟩ := unI_some z_h13
  obtain ⟨z_x0_6, z_r0_6, rfl, z_h15⟩ := un_some z_h14
  obtain ⟨h0, rfl, z_h16⟩ := unI_some z_h15
  obtain ⟨z_x0_7, z_r0_7, rfl, z_h17⟩ := un_some z_h16
  obtain ⟨n1, rfl, z_h18⟩ := unI_some z_h17
  obtain ⟨z_x0_8, z_r0_8, rfl, z_h19⟩ := un_some z_h18
  obtain ⟨d1, rfl, z_h20⟩ := unI_some z_h19
  obtain ⟨z_x0_9, z_r0_9, rfl, z_h21⟩ := un_some z_h20
  obtain ⟨s1, rfl, z_h22⟩ := unI_some z_h21
  obtain ⟨z_x0_10, z_r0_10, rfl, z_h23⟩ := un_some z_h22
  obtain ⟨a1, rfl, z_h24⟩ := unI_some z_h23
  obtain ⟨z_x0_11, z_r0_11, rfl, z_h25⟩ := un_some z_h24
  obtain ⟨j1, rfl, z_h26⟩ := unI_some z_h25
  obtain ⟨z_x0_12, z_r0_12, rfl, z_h27⟩ := un_some z_h26
  obtain ⟨l1, rfl, z_h28⟩ := unI_some z_h27
  obtain ⟨z_x0_13, z_r0_13, rfl, z_h29⟩ := un_some z_h28
  obtain ⟨h1, rfl, z_h30⟩ := unI_some z_h29
  obtain ⟨z_x0_14, z_r0_14, rfl, z_h31⟩ := un_some z_h30
  obtain ⟨n2, rfl, z_h32⟩ := unI_some z_h31
  obtain ⟨z_x0_15, z_r0_15, rfl, z_h33⟩ := un_some z_h32
  obtain ⟨d2, rfl, z_h34⟩ := unI_some z_h33
  obtain ⟨z_x0_16, z_r0_16, rfl, z_h35⟩ := un_some z_h34
  obtain ⟨s2, rfl, z_h36⟩ := unI_some z_h35
  obtain ⟨z_x0_17, z_r0_17, rfl, z_h37⟩ := un_some z_h36
  obtain ⟨a2, rfl, z_h38⟩ := unI_some z_h37
  obtain ⟨z_x0_18, z_r0_18, rfl, z_h39⟩ := un_some z_h38
  obtain ⟨j2, rfl, z_h40⟩ := unI_some z_h39
  obtain ⟨z_x0_19, z_r0_19, rfl, z_h41⟩ := un_some z_h40
  obtain ⟨l2, rfl, z_h42⟩ := unI_some z_h41
  obtain ⟨z_x0_20, z_r0_20, rfl, z_h43⟩ := un_some z_h42
  obtain ⟨h2, rfl, z_h44⟩ := unI_some z_h43
  obtain ⟨z_x0_21, z_r0_21, rfl, z_h45⟩ := un_some z_h44
  obtain ⟨n3, rfl, z_h46⟩ := unI_some z_h45
  obtain ⟨z_x0_22, z_r0_22, rfl, z_h47⟩ := un_some z_h46
  obtain ⟨d3, rfl, z_h48⟩ := unI_some z_h47
  obtain ⟨z_x0_23, z_r0_23, rfl, z_h49⟩ := un_some z_h48
  obtain ⟨s3, rfl, z_h50⟩ := unI_some z_h49
  obtain ⟨z_x0_24, z_r0_24, rfl, z_h51⟩ := un_some z_h50
  obtain ⟨a3, rfl, z_h52⟩ := unI_some z_h51
  obtain ⟨z_x0_25, z_r0_25, rfl, z_h53⟩ := un_some z_h52
  obtain ⟨j3, rfl, z_h54⟩ := unI_some z_h53
  obtain ⟨z_x0_26, z_r0_26, rfl, z_h55⟩ := un_some z_h54
  obtain ⟨l3, rfl, z_h56⟩ := unI_some z_h55
  obtain ⟨z_x0_27, z_r0_27, rfl, z_h57⟩ := un_some z_h56
  obtain ⟨h3, rfl, z_h58⟩ := unI_some z_h57
  obtain ⟨z_x0_28, z_r0_28, rfl, z_h59⟩ := un_some z_h58
  obtain ⟨xy, rfl, z_h60⟩ := unB_some z_h59
  obtain ⟨z_x0_29, z_r0_29, rfl, z_h61⟩ := un_some z_h60
  obtain ⟨tk, rfl, z_h62⟩ := unI_some z_h61
  obtain ⟨rfl, z_h63⟩ := unE_some z_h62
  obtain ⟨z_a1, z_args1, rfl, z_h64⟩ := un_some z_h63
  obtain ⟨z_kn1, z_v1⟩ := z_a1
  (try dsimp only at z_h64)
  obtain ⟨i, rfl, z_h65⟩ := unI_some z_h64
  obtain ⟨z_a2, z_args2, rfl, z_h66⟩ := un_some z_h65
  obtain ⟨z_kn2, z_v2⟩ := z_a2
  (try dsimp only at z_h66)
  obtain ⟨p, rfl, z_h67⟩ := unI_some z_h66
  obtain ⟨rfl, z_h68⟩ := unE_some z_h67
  simp only [Option.some.injEq] at z_h68
  subst z_h68
  simp only [Tr.val, Option.some.injEq] at z_hr
  subst z_hr
  exact calls_of_tree (by kernel_rfl) (kiC_S2_ok) (ks_tree n0 d0 s0 a0 j0 l0 h0 n1 d1 s1 a1 j1 l1 h1 n2 d2 s2 a2 j2 l2 h2 n3 d3 s3 a3 j3 l3 h3 xy tk i p) (ks_all n0 d0 s0 a0 j0 l0 h0 n1 d1 s1 a1 j1 l1 h1 n2 d2 s2 a2 j2 l2 h2 n3 d3 s3 a3 j3 l3 h3 xy tk i p) z_w
def kiC_S3 : Sums := addS 20 ks_g kiC_S2
theorem kiC_S3_ok : SumOK Try.prog kiC_S3 := addS_ok ks_ok (kiC_S2_ok)
set_option maxRecDepth 100000 in
theorem rs_tree (n0 d0 s0 a0 j0 l0 h0 n1 d1 s1 a1 j1 l1 h1 n2 d2 s2 a2 j2 l2 h2 n3 d3 s3 a3 j3 l3 h3 : Int) (xy : Bool) (tk i p : Int) : evalF Try.prog kiC_S3 6 21 [(false, .agg #[.int .i64 n0, .int .i64 d0, .int .i64 s0, .int .i64 a0, .int .i64 j0, .int .i64 l0, .int .i64 h0, .int .i64 n1, .int .i64 d1, .int .i64 s1, .int .i64 a1, .int .i64 j1, .int .i64 l1, .int .i64 h1, .int .i64 n2, .int .i64 d2, .int .i64 s2, .int .i64 a2, .int .i64 j2, .int .i64 l2, .int .i64 h2, .int .i64 n3, .int .i64 d3, .int .i64 s3, .int .i64 a3, .int .i64 j3, .int .i64 l3, .int .i64 h3, .bool xy, .int .i64 tk]), (false, .int .i64 i), (false, .int .i64 p)] = .br (bif bif bif bif !kv0 n0 d0 s0 a0 j0 l0 h0 n1 d1 s1 a1 j1 l1 h1 n2 d2 s2 a2 j2 l2 h2 n3 d3 s3 a3 j3 l3 h3 xy tk then true else decide (i < (0 : Int)) then true else decide (i ≥ (4 : Int)) then true else decide (p < (-1073741824 : Int)) then true else decide (p > (1073741824 : Int))) (.ret (true, .tuple #[.int .i64 (0), .int .i64 (1)])) (.br (i == ↑(0 : Nat)) (.br (i == ↑(0 : Nat)) (.br (inR (IntKind.wrap IntKind.i64 (p * n0)) && inR d0) (.ret (false, .tuple #[.int .i64 (Prod.fst (rnd (IntKind.wrap IntKind.i64 (p * n0)) d0)), .int .i64 (Prod.snd (rnd (IntKind.wrap IntKind.i64 (p * n0)) d0))])) (.bad 900)) (.br (i == ↑((0 : Nat) + (1 : Nat))) (.br (inR (IntKind.wrap IntKind.i64 (p * n0)) && inR d1) (.ret (false, .tuple #[.int .i64 (Prod.fst (rnd (IntKind.wrap IntKind.i64 (p * n0)) d1)), .int .i64 (Prod.snd (rnd (IntKind.wrap IntKind.i64 (p * n0)) d1))])) (.bad 900)) (.br (i == ↑((0 : Nat) + (1 : Nat) + (1 : Nat))) (.br (inR (IntKind.wrap IntKind.i64 (p * n0)) && inR d2) (.ret (false, .tuple #[.int .i64 (Prod.fst (rnd (IntKind.wrap IntKind.i64 (p * n0)) d2)), .int .i64 (Prod.snd (rnd (IntKind.wrap IntKind.i64 (p * n0)) d2))])) (.bad 900)) (.br (i == ↑((0 : Nat) + (1 : Nat) + (1 : Nat) + (1 : Nat))) (.br (inR (IntKind.wrap IntKind.i64 (p * n0)) && inR d3) (.ret (false, .tuple #[.int .i64 (Prod.fst (rnd (IntKind.wrap IntKind.i64 (p * n0)) d3)), .int .i64 (Prod.snd (rnd (IntKind.wrap IntKind.i64 (p * n0)) d3))])) (.bad 900)) (.bad 1))))) (.br (i == ↑((0 : Nat) + (1 : Nat))) (.br (i == ↑(0 : Nat)) (.br (inR (IntKind.wrap IntKind.i64 (p * n1)) && inR d0) (.ret (false, .tuple #[.int .i64 (Prod.fst (rnd (IntKind.wrap IntKind.i64 (p * n1)) d0)), .int .i64 (Prod.snd (rnd (IntKind.wrap IntKind.i64 (p * n1)) d0))])) (.bad 900)) (.br (i == ↑((0 : Nat) + (1 : Nat))) (.br (inR (IntKind.wrap IntKind.i64 (p * n1)) && inR d1) (.ret (false, .tuple #[.int .i64 (Prod.fst (rnd (IntKind.wrap IntKind.i64 (p * n1)) d1)), .int .i64 (Prod.snd (rnd (IntKind.wrap IntKind.i64 (p * n1)) d1))])) (.bad 900)) (.br (i == ↑((0 : Nat) + (1 : Nat) + (1 : Nat))) (.br (inR (IntKind.wrap IntKind.i64 (p * n1)) && inR d2) (.ret (false, .tuple #[.int .i64 (Prod.fst (rnd (IntKind.wrap IntKind.i64 (p * n1)) d2)), .int .i64 (Prod.snd (rnd (IntKind.wrap IntKind.i64 (p * n1)) d2))])) (.bad 900)) (.br (i == ↑((0 : Nat) + (1 : Nat) + (1 : Nat) + (1 : Nat))) (.br (inR (IntKind.wrap IntKind.i64 (p * n1)) && inR d3) (.ret (false, .tuple #[.int .i64 (Prod.fst (rnd (IntKind.wrap IntKind.i64 (p * n1)) d3)), .int .i64 (Prod.snd (rnd (IntKind.wrap IntKind.i64 (p * n1)) d3))])) (.bad 900)) (.bad 1))))) (.br (i == ↑((0 : Nat) + (1 : Nat) + (1 : Nat))) (.br (i == ↑(0 : Nat)) (.br (inR (IntKind.wrap IntKind.i64 (p * n2)) && inR d0) (.ret (false, .tuple #[.int .i64 (Prod.fst (rnd (IntKind.wrap IntKind.i64 (p * n2)) d0)), .int .i64 (Prod.snd (rnd (IntKind.wrap IntKind.i64 (p * n2)) d0))])) (.bad 900)) (.br (i == ↑((0 : Nat) + (1 : Nat))) (.br (inR (IntKind.wrap IntKind.i64 (p * n2)) && inR d1) (.ret (false, .tuple #[.int .i64 (Prod.fst (rnd (IntKind.wrap IntKind.i64 (p * n2)) d1)), .int .i64 (Prod.snd (rnd (IntKind.wrap IntKind.i64 (p * n2)) d1))])) (.bad 900)) (.br (i == ↑((0 : Nat) + (1 : Nat) + (1 : Nat))) (.br (inR (IntKind.wrap IntKind.i64 (p * n2)) && inR d2) (.ret (false, .tuple #[.int .i64 (Prod.fst (rnd (IntKind.wrap IntKind.i64 (p * n2)) d2)), .int .i64 (Prod.snd (rnd (IntKind.wrap IntKind.i64 (p * n2)) d2))])) (.bad 900)) (.br (i == ↑((0 : Nat) + (1 : Nat) + (1 : Nat) + (1 : Nat))) (.br (inR (IntKind.wrap IntKind.i64 (p * n2)) && inR d3) (.ret (false, .tuple #[.int .i64 (Prod.fst (rnd (IntKind.wrap IntKind.i64 (p * n2)) d3)), .int .i64 (Prod.snd (rnd (IntKind.wrap IntKind.i64 (p * n2)) d3))])) (.bad 900)) (.bad 1))))) (.br (i == ↑((0 : Nat) + (1 : Nat) + (1 : Nat) + (1 : Nat))) (.br (i == ↑(0 : Nat)) (.br (inR (IntKind.wrap IntKind.i64 (p * n3)) && inR d0) (.ret (false, .tuple #[.int .i64 (Prod.fst (rnd (IntKind.wrap IntKind.i64 (p * n3)) d0)), .int .i64 (Prod.snd (rnd (IntKind.wrap IntKind.i64 (p * n3)) d0))])) (.bad 900)) (.br (i == ↑((0 : Nat) + (1 : Nat))) (.br (inR (IntKind.wrap IntKind.i64 (p * n3)) && inR d1) (.ret (false, .tuple #[.int .i64 (Prod.fst (rnd (IntKind.wrap IntKind.i64 (p * n3)) d1)), .int .i64 (Prod.snd (rnd (IntKind.wrap IntKind.i64 (p * n3)) d1))])) (.bad 900)) (.br (i == ↑((0 : Nat) + (1 : Nat) + (1 : Nat))) (.br (inR (IntKind.wrap IntKind.i64 (p * n3)) && inR d2) (.ret (false, .tuple #[.int .i64 (Prod.fst (rnd (IntKind.wrap IntKind.i64 (p * n3)) d2)), .int .i64 (Prod.snd (rnd (IntKind.wrap IntKind.i64 (p * n3)) d2))])) (.bad 900)) (.br (i == ↑((0 : Nat) + (1 : Nat) + (1 : Nat) + (1 : Nat))) (.br (inR (IntKind.wrap IntKind.i64 (p * n3)) && inR d3) (.ret (false, .tuple #[.int .i64 (Prod.fst (rnd (IntKind.wrap IntKind.i64 (p * n3)) d3)), .int .i64 (Prod.snd (rnd (IntKind.wrap IntKind.i64 (p * n3)) d3))])) (.bad 900)) (.bad 1))))) (.bad 1))))) := by kernel_rfl
set_option maxHeartbeats 4000000 in
theorem rs_all (n0 d0 s0 a0 j0 l0 h0 n1 d1 s1 a1 j1 l1 h1 n2 d2 s2 a2 j2 l2 h2 n3 d3 s3 a3 j3 l3 h3 : Int) (xy : Bool) (tk i p : Int) : Tr.all (fun r : Bool × Value => r.2 = .tuple #[.int .i64 (kst n0 d0 s0 a0 j0 l0 h0 n1 d1 s1 a1 j1 l1 h1 n2 d2 s2 a2 j2 l2 h2 n3 d3 s3 a3 j3 l3 h3 xy tk i p).1, .int .i64 (kst n0 d0 s0 a0 j0 l0 h0 n1 d1 s1 a1 j1 l1 h1 n2 d2 s2 a2 j2 l2 h2 n3 d3 s3 a3 j3 l3 h3 xy tk i p).2]) (.br (bif bif bif bif !kv0 n0 d0 s0 a0 j0 l0 h0 n1 d1 s1 a1 j1 l1 h1 n2 d2 s2 a2 j2 l2 h2 n3 d3 s3 a3 j3 l3 h3 xy tk then true else decide (i < (0 : Int)) then true else decide (i ≥ (4 : Int)) then true else decide (p < (-1073741824 : Int)) then true else decide (p > (1073741824 : Int))) (.ret (true, .tuple #[.int .i64 (0), .int .i64 (1)])) (.br (i == ↑(0 : Nat)) (.br (i == ↑(0 : Nat)) (.br (inR (IntKind.wrap IntKind.i64 (p * n0)) && inR d0) (.ret (false, .tuple #[.int .i64 (Prod.fst (rnd (IntKind.wrap IntKind.i64 (p * n0)) d0)), .int .i64 (Prod.snd (rnd (IntKind.wrap IntKind.i64 (p * n0)) d0))])) (.bad 900)) (.br (i == ↑((0 : Nat) + (1 : Nat))) (.br (inR (IntKind.wrap IntKind.i64 (p * n0)) && inR d1) (.ret (false, .tuple #[.int .i64 (Prod.fst (rnd (IntKind.wrap IntKind.i64 (p * n0)) d1)), .int .i64 (Prod.snd (rnd (IntKind.wrap IntKind.i64 (p * n0)) d1))])) (.bad 900)) (.br (i == ↑((0 : Nat) + (1 : Nat) + (1 : Nat))) (.br (inR (IntKind.wrap IntKind.i64 (p * n0)) && inR d2) (.ret (false, .tuple #[.int .i64 (Prod.fst (rnd (IntKind.wrap IntKind.i64 (p * n0)) d2)), .int .i64 (Prod.snd (rnd (IntKind.wrap IntKind.i64 (p * n0)) d2))])) (.bad 900)) (.br (i == ↑((0 : Nat) + (1 : Nat) + (1 : Nat) + (1 : Nat))) (.br (inR (IntKind.wrap IntKind.i64 (p * n0)) && inR d3) (.ret (false, .tuple #[.int .i64 (Prod.fst (rnd (IntKind.wrap IntKind.i64 (p * n0)) d3)), .int .i64 (Prod.snd (rnd (IntKind.wrap IntKind.i64 (p * n0)) d3))])) (.bad 900)) (.bad 1))))) (.br (i == ↑((0 : Nat) + (1 : Nat))) (.br (i == ↑(0 : Nat)) (.br (inR (IntKind.wrap IntKind.i64 (p * n1)) && inR d0) (.ret (false, .tuple #[.int .i64 (Prod.fst (rnd (IntKind.wrap IntKind.i64 (p * n1)) d0)), .int .i64 (Prod.snd (rnd (IntKind.wrap IntKind.i64 (p * n1)) d0))])) (.bad 900)) (.br (i == ↑((0 : Nat) + (1 : Nat))) (.br (inR (IntKind.wrap IntKind.i64 (p * n1)) && inR d1) (.ret (false, .tuple #[.int .i64 (Prod.fst (rnd (IntKind.wrap IntKind.i64 (p * n1)) d1)), .int .i64 (Prod.snd (rnd (IntKind.wrap IntKind.i64 (p * n1)) d1))])) (.bad 900)) (.br (i == ↑((0 : Nat) + (1 : Nat) + (1 : Nat))) (.br (inR (IntKind.wrap IntKind.i64 (p * n1)) && inR d2) (.ret (false, .tuple #[.int .i64 (Prod.fst (rnd (IntKind.wrap IntKind.i64 (p * n1)) d2)), .int .i64 (Prod.snd (rnd (IntKind.wrap IntKind.i64 (p * n1)) d2))])) (.bad 900)) (.br (i == ↑((0 : Nat) + (1 : Nat) + (1 : Nat) + (1 : Nat))) (.br (inR (IntKind.wrap IntKind.i64 (p * n1)) && inR d3) (.ret (false, .tuple #[.int .i64 (Prod.fst (rnd (IntKind.wrap IntKind.i64 (p * n1)) d3)), .int .i64 (Prod.snd (rnd (IntKind.wrap IntKind.i64 (p * n1)) d3))])) (.bad 900)) (.bad 1))))) (.br (i == ↑((0 : Nat) + (1 : Nat) + (1 : Nat))) (.br (i == ↑(0 : Nat)) (.br (inR (IntKind.wrap IntKind.i64 (p * n2)) && inR d0) (.ret (false, .tuple #[.int .i64 (Prod.fst (rnd (IntKind.wrap IntKind.i64 (p * n2)) d0)), .int .i64 (Prod.snd (rnd (IntKind.wrap IntKind.i64 (p * n2)) d0))])) (.bad 900)) (.br (i == ↑((0 : Nat) + (1 : Nat))) (.br (inR (IntKind.wrap IntKind.i64 (p * n2)) && inR d1) (.ret (false, .tuple #[.int .i64 (Prod.fst (rnd (IntKind.wrap IntKind.i64 (p * n2)) d1)), .int .i64 (Prod.snd (rnd (IntKind.wrap IntKind.i64 (p * n2)) d1))])) (.bad 900)) (.br (i == ↑((0 : Nat) + (1 : Nat) + (1 : Nat))) (.br (inR (IntKind.wrap IntKind.i64 (p * n2)) && inR d2) (.ret (false, .tuple #[.int .i64 (Prod.fst (rnd (IntKind.wrap IntKind.i64 (p * n2)) d2)), .int .i64 (Prod.snd (rnd (IntKind.wrap IntKind.i64 (p * n2)) d2))])) (.bad 900)) (.br (i == ↑((0 : Nat) + (1 : Nat) + (1 : Nat) + (1 : Nat))) (.br (inR (IntKind.wrap IntKind.i64 (p * n2)) && inR d3) (.ret (false, .tuple #[.int .i64 (Prod.fst (rnd (IntKind.wrap IntKind.i64 (p * n2)) d3)), .int .i64 (Prod.snd (rnd (IntKind.wrap IntKind.i64 (p * n2)) d3))])) (.bad 900)) (.bad 1))))) (.br (i == ↑((0 : Nat) + (1 : Nat) + (1 : Nat) + (1 : Nat))) (.br (i == ↑(0 : Nat)) (.br (inR (IntKind.wrap IntKind.i64 (p * n3)) && inR d0) (.ret (false, .tuple #[.int .i64 (Prod.fst (rnd (IntKind.wrap IntKind.i64 (p * n3)) d0)), .int .i64 (Prod.snd (rnd (IntKind.wrap IntKind.i64 (p * n3)) d0))])) (.bad 900)) (.br (i == ↑((0 : Nat) + (1 : Nat))) (.br (inR (IntKind.wrap IntKind.i64 (p * n3)) && inR d1) (.ret (false, .tuple #[.int .i64 (Prod.fst (rnd (IntKind.wrap IntKind.i64 (p * n3)) d1)), .int .i64 (Prod.snd (rnd (IntKind.wrap IntKind.i64 (p * n3)) d1))])) (.bad 900)) (.br (i == ↑((0 : Nat) + (1 : Nat) + (1 : Nat))) (.br (inR (IntKind.wrap IntKind.i64 (p * n3)) && inR d2) (.ret (false, .tuple #[.int .i64 (Prod.fst (rnd (IntKind.wrap IntKind.i64 (p * n3)) d2)), .int .i64 (Prod.snd (rnd (IntKind.wrap IntKind.i64 (p * n3)) d2))])) (.bad 900)) (.br (i == ↑((0 : Nat) + (1 : Nat) + (1 : Nat) + (1 : Nat))) (.br (inR (IntKind.wrap IntKind.i64 (p * n3)) && inR d3) (.ret (false, .tuple #[.int .i64 (Prod.fst (rnd (IntKind.wrap IntKind.i64 (p * n3)) d3)), .int .i64 (Prod.snd (rnd (IntKind.wrap IntKind.i64 (p * n3)) d3))])) (.bad 900)) (.bad 1))))) (.bad 1))))) : Tr (Bool × Value)) := by
    by_cases hv : kv0 n0 d0 s0 a0 j0 l0 h0 n1 d1 s1 a1 j1 l1 h1 n2 d2 s2 a2 j2 l2 h2 n3 d3 s3 a3 j3 l3 h3 xy tk = true
    case neg =>
      have hv' : kv0 n0 d0 s0 a0 j0 l0 h0 n1 d1 s1 a1 j1 l1 h1 n2 d2 s2 a2 j2 l2 h2 n3 d3 s3 a3 j3 l3 h3 xy tk = false := by simpa using hv
      simp [Tr.all, kst, hv']
    obtain ⟨⟨_, _, _, _⟩, ⟨_, _, _, _⟩, ⟨_, _, _, _⟩, ⟨_, _, _, _⟩⟩ := kv_spec hv
    by_cases hi : 0 ≤ i ∧ i ≤ 3 ∧ -1073741824 ≤ p ∧ p ≤ 1073741824
    case neg =>
      have hb : (bif bif bif bif !kv0 n0 d0 s0 a0 j0 l0 h0 n1 d1 s1 a1 j1 l1 h1 n2 d2 s2 a2 j2 l2 h2 n3 d3 s3 a3 j3 l3 h3 xy tk then true else decide (i < (0 : Int)) then true else decide (i ≥ (4 : Int)) then true else decide (p < (-1073741824 : Int)) then true else decide (p > (1073741824 : Int))) = true := by rw [hv]; simp; omega
      refine ⟨fun _ => ?_, fun h => ?_⟩
      · simp only [Tr.all, kst, hv]; rw [if_neg (by simpa using hi)]
      · rw [hb] at h; cases h
    obtain ⟨i0, i1, p0, p1⟩ := hi
    refine ⟨fun h => ?_, fun _ => ?_⟩
    · rw [hv] at h; simp at h; omega
    have q : kst n0 d0 s0 a0 j0 l0 h0 n1 d1 s1 a1 j1 l1 h1 n2 d2 s2 a2 j2 l2 h2 n3 d3 s3 a3 j3 l3 h3 xy tk i p = rnd (p * ax i n0 n1 n2 n3) (ax i d0 d1 d2 d3) := if_pos ⟨hv, i0, i1, p0, p1⟩
    rw [q]
    obtain ⟨w0, v0⟩ := wrap_mul (p := p) (n := n0) (k := 1073741824) (by omega) (by omega) p0 p1 (by omega) (by omega)
    obtain ⟨w1, v1⟩ := wrap_mul (p := p) (n := n1) (k := 1073741824) (by omega) (by omega) p0 p1 (by omega) (by omega)
    obtain ⟨w2, v2⟩ := wrap_mul (p := p) (n := n2) (k := 1073741824) (by omega) (by omega) p0 p1 (by omega) (by omega)
    obtain ⟨w3, v3⟩ := wrap_mul (p := p) (n := n3) (k := 1073741824) (by omega) (by omega) p0 p1 (by omega) (by omega)
    have u0 : inR d0 = true := inR_of (n := 65536) (by omega) (by omega) (by omega)
    have u1 : inR d1 = true := inR_of (n := 65536) (by omega) (by omega) (by omega)
    have u2 : inR d2 = true := inR_of (n := 65536) (by omega) (by omega) (by omega)
    have u3 : inR d3 = true := inR_of (n := 65536) (by omega) (by omega) (by omega)
    obtain rfl | rfl | rfl | rfl : i = 0 ∨ i = 1 ∨ i = 2 ∨ i = 3 := by omega
    all_goals simp [Tr.all, ax, w0, w1, w2, w3, v0, v1, v2, v3, u0, u1, u2, u3]
theorem rs_ok : ∀ args t, ks_g args = some t → ∀ r, t.val = some r → ∀ w, Calls Try.prog 21 (args.map (·.2)).toArray w fun e w' => e = .returned r.2 ∧ Ext w w' := by
  intro z_args z_t z_h0 z_r z_hr z_w
  unfold ks_g at z_h0
  obtain ⟨z_a0, z_args0, rfl, z_h1⟩ := un_some z_h0
  obtain ⟨z_kn0, z_v0⟩ := z_a0
  (try dsimp only at z_h1)
  obtain ⟨z_c0, rfl, z_h2⟩ := unA_some z_h1
  obtain ⟨z_x0_0, z_r0_0, rfl, z_h3⟩ := un_some z_h2
  obtain ⟨n0, rfl, z_h4⟩ := unI_some z_h3
  obtain ⟨z_x0_1, z_r0_1, rfl, z_h5⟩ := un_some z_h4
  obtain ⟨d0, rfl, z_h6⟩ := unI_some z_h5
  obtain ⟨z_x0_2, z_r0_2, rfl, z_h7⟩ := un_some z_h6
  obtain ⟨s0, rfl, z_h8⟩ := unI_some z_h7
  obtain ⟨z_x0_3, z_r0_3, rfl, z_h9⟩ := un_some z_h8
  obtain ⟨a0, rfl, z_h10⟩ := unI_some z_h9
  obtain ⟨z_x0_4, z_r0_4, rfl, z_h11⟩ := un_some z_h10
  obtain ⟨j0, rfl, z_h12⟩ := unI_some z_h11
  obtain ⟨z_x0_5, z_r0_5, rfl, z_h13⟩ := un_some z_h12
  obtain ⟨l0, rfl, z_h14⟩ := unI_some z_h13
  obtain ⟨z_x0_6, z_r0_6, rfl, z_h15⟩ := un_some z_h14
  obtain ⟨h0, rfl, z_h16⟩ := unI_some z_h15
  obtain ⟨z_x0_7, z_r0_7, rfl, z_h17⟩ := un_some z_h16
  obtain ⟨n1, rfl, z_h18⟩ := unI_some z_h17
  obtain ⟨z_x0_8, z_r0_8, rfl, z_h19⟩ := un_some z_h18
  obtain ⟨d1, rfl, z_h20⟩ := unI_some z_h19
  obtain ⟨z_x0_9, z_r0_9, rfl, z_h21⟩ := un_some z_h20
  obtain ⟨s1, rfl, z_h22⟩ := unI_some z_h21
  obtain ⟨z_x0_10, z_r0_10, rfl, z_h23⟩ := un_some z_h22
  obtain ⟨a1, rfl, z_h24⟩ := unI_some z_h23
  obtain ⟨z_x0_11, z_r0_11, rfl, z_h25⟩ := un_some z_h24
  obtain ⟨j1, rfl, z_h26⟩ := unI_some z_h25
  obtain ⟨z_x0_12, z_r0_12, rfl, z_h27⟩ := un_some z_h26
  obtain ⟨l1, rfl, z_h28⟩ := unI_some z_h27
  obtain ⟨z_x0_13, z_r0_13, rfl, z_h29⟩ := un_some z_h28
  obtain ⟨h1, rfl, z_h30⟩ := unI_some z_h29
  obtain ⟨z_x0_14, z_r0_14, rfl, z_h31⟩ := un_some z_h30
  obtain ⟨n2, rfl, z_h32⟩ := unI_some z_h31
  obtain ⟨z_x0_15, z_r0_15, rfl, z_h33⟩ := un_some z_h32
  obtain ⟨d2, rfl, z_h34⟩ := unI_some z_h33
  obtain ⟨z_x0_16, z_r0_16, rfl, z_h35⟩ := un_some z_h34
  obtain ⟨s2, rfl, z_h36⟩ := unI_some z_h35
  obtain ⟨z_x0_17, z_r0_17, rfl, z_h37⟩ := un_some z_h36
  obtain ⟨a2, rfl, z_h38⟩ := unI_some z_h37
  obtain ⟨z_x0_18, z_r0_18, rfl, z_h39⟩ := un_some z_h38
  obtain ⟨j2, rfl, z_h40⟩ := unI_some z_h39
  obtain ⟨z_x0_19, z_r0_19, rfl, z_h41⟩ := un_some z_h40
  obtain ⟨l2, rfl, z_h42⟩ := unI_some z_h41
  obtain ⟨z_x0_20, z_r0_20, rfl, z_h43⟩ := un_some z_h42
  obtain ⟨h2, rfl, z_h44⟩ := unI_some z_h43
  obtain ⟨z_x0_21, z_r0_21, rfl, z_h45⟩ := un_some z_h44
  obtain ⟨n3, rfl, z_h46⟩ := unI_some z_h45
  obtain ⟨z_x0_22, z_r0_22, rfl, z_h47⟩ := un_some z_h46
  obtain ⟨d3, rfl, z_h48⟩ := unI_some z_h47
  obtain ⟨z_x0_23, z_r0_23, rfl, z_h49⟩ := un_some z_h48
  obtain ⟨s3, rfl, z_h50⟩ := unI_some z_h49
  obtain ⟨z_x0_24, z_r0_24, rfl, z_h51⟩ := un_some z_h50
  obtain ⟨a3, rfl, z_h52⟩ := unI_some z_h51
  obtain ⟨z_x0_25, z_r0_25, rfl, z_h53⟩ := un_some z_h52
  obtain ⟨j3, rfl, z_h54⟩ := unI_some z_h53
  obtain ⟨z_x0_26, z_r0_26, rfl, z_h55⟩ := un_some z_h54
  obtain ⟨l3, rfl, z_h56⟩ := unI_some z_h55
  obtain ⟨z_x0_27, z_r0_27, rfl, z_h57⟩ := un_some z_h56
  obtain ⟨h3, rfl, z_h58⟩ := unI_some z_h57
  obtain ⟨z_x0_28, z_r0_28, rfl, z_h59⟩ := un_some z_h58
  obtain ⟨xy, rfl, z_h60⟩ := unB_some z_h59
  obtain ⟨z_x0_29, z_r0_29, rfl, z_h61⟩ := un_some z_h60
  obtain ⟨tk, rfl, z_h62⟩ := unI_some z_h61
  obtain ⟨rfl, z_h63⟩ := unE_some z_h62
  obtain ⟨z_a1, z_args1, rfl, z_h64⟩ := un_some z_h63
  obtain ⟨z_kn1, z_v1⟩ := z_a1
  (try dsimp only at z_h64)
  obtain ⟨i, rfl, z_h65⟩ := unI_some z_h64
  obtain ⟨z_a2, z_args2, rfl, z_h66⟩ := un_some z_h65
  obtain ⟨z_kn2, z_v2⟩ := z_a2
  (try dsimp only at z_h66)
  obtain ⟨p, rfl, z_h67⟩ := unI_some z_h66
  obtain ⟨rfl, z_h68⟩ := unE_some z_h67
  simp only [Option.some.injEq] at z_h68
  subst z_h68
  simp only [Tr.val, Option.some.injEq] at z_hr
  subst z_hr
  exact calls_of_tree (by kernel_rfl) (kiC_S3_ok) (rs_tree n0 d0 s0 a0 j0 l0 h0 n1 d1 s1 a1 j1 l1 h1 n2 d2 s2 a2 j2 l2 h2 n3 d3 s3 a3 j3 l3 h3 xy tk i p) (rs_all n0 d0 s0 a0 j0 l0 h0 n1 d1 s1 a1 j1 l1 h1 n2 d2 s2 a2 j2 l2 h2 n3 d3 s3 a3 j3 l3 h3 xy tk i p) z_w
def kiC_S4 : Sums := addS 21 ks_g kiC_S3
theorem kiC_S4_ok : SumOK Try.prog kiC_S4 := addS_ok rs_ok (kiC_S3_ok)
set_option maxRecDepth 100000 in
theorem ku_tree (n0 d0 s0 a0 j0 l0 h0 n1 d1 s1 a1 j1 l1 h1 n2 d2 s2 a2 j2 l2 h2 n3 d3 s3 a3 j3 l3 h3 : Int) (xy : Bool) (tk i p : Int) : evalF Try.prog kiC_S4 6 22 [(false, .agg #[.int .i64 n0, .int .i64 d0, .int .i64 s0, .int .i64 a0, .int .i64 j0, .int .i64 l0, .int .i64 h0, .int .i64 n1, .int .i64 d1, .int .i64 s1, .int .i64 a1, .int .i64 j1, .int .i64 l1, .int .i64 h1, .int .i64 n2, .int .i64 d2, .int .i64 s2, .int .i64 a2, .int .i64 j2, .int .i64 l2, .int .i64 h2, .int .i64 n3, .int .i64 d3, .int .i64 s3, .int .i64 a3, .int .i64 j3, .int .i64 l3, .int .i64 h3, .bool xy, .int .i64 tk]), (false, .int .i64 i), (false, .int .i64 p)] = .br (bif bif !kv0 n0 d0 s0 a0 j0 l0 h0 n1 d1 s1 a1 j1 l1 h1 n2 d2 s2 a2 j2 l2 h2 n3 d3 s3 a3 j3 l3 h3 xy tk then true else !bif decide ((0 : Int) ≤ i) then decide (i ≤ (3 : Int)) else false then true else !bif decide ((-70368744177664 : Int) ≤ p) then decide (p ≤ (70368744177664 : Int)) else false) (.ret (true, .tuple #[.int .i64 (0), .int .i64 (1)])) (.br (i == ↑(0 : Nat)) (.br (i == ↑(0 : Nat)) (.br (inR (IntKind.wrap IntKind.i64 (p * d0)) && inR n0) (.ret (false, .tuple #[.int .i64 (Prod.fst (rnd (IntKind.wrap IntKind.i64 (p * d0)) n0)), .int .i64 (Prod.snd (rnd (IntKind.wrap IntKind.i64 (p * d0)) n0))])) (.bad 900)) (.br (i == ↑((0 : Nat) + (1 : Nat))) (.br (inR (IntKind.wrap IntKind.i64 (p * d0)) && inR n1) (.ret (false, .tuple #[.int .i64 (Prod.fst (rnd (IntKind.wrap IntKind.i64 (p * d0)) n1)), .int .i64 (Prod.snd (rnd (IntKind.wrap IntKind.i64 (p * d0)) n1))])) (.bad 900)) (.br (i == ↑((0 : Nat) + (1 : Nat) + (1 : Nat))) (.br (inR (IntKind.wrap IntKind.i64 (p * d0)) && inR n2) (.ret (false, .tuple #[.int .i64 (Prod.fst (rnd (IntKind.wrap IntKind.i64 (p * d0)) n2)), .int .i64 (Prod.snd (rnd (IntKind.wrap IntKind.i64 (p * d0)) n2))])) (.bad 900)) (.br (i == ↑((0 : Nat) + (1 : Nat) + (1 : Nat) + (1 : Nat))) (.br (inR (IntKind.wrap IntKind.i64 (p * d0)) && inR n3) (.ret (false, .tuple #[.int .i64 (Prod.fst (rnd (IntKind.wrap IntKind.i64 (p * d0)) n3)), .int .i64 (Prod.snd (rnd (IntKind.wrap IntKind.i64 (p * d0)) n3))])) (.bad 900)) (.bad 1))))) (.br (i == ↑((0 : Nat) + (1 : Nat))) (.br (i == ↑(0 : Nat)) (.br (inR (IntKind.wrap IntKind.i64 (p * d1)) && inR n0) (.ret (false, .tuple #[.int .i64 (Prod.fst (rnd (IntKind.wrap IntKind.i64 (p * d1)) n0)), .int .i64 (Prod.snd (rnd (IntKind.wrap IntKind.i64 (p * d1)) n0))])) (.bad 900)) (.br (i == ↑((0 : Nat) + (1 : Nat))) (.br (inR (IntKind.wrap IntKind.i64 (p * d1)) && inR n1) (.ret (false, .tuple #[.int .i64 (Prod.fst (rnd (IntKind.wrap IntKind.i64 (p * d1)) n1)), .int .i64 (Prod.snd (rnd (IntKind.wrap IntKind.i64 (p * d1)) n1))])) (.bad 900)) (.br (i == ↑((0 : Nat) + (1 : Nat) + (1 : Nat))) (.br (inR (IntKind.wrap IntKind.i64 (p * d1)) && inR n2) (.ret (false, .tuple #[.int .i64 (Prod.fst (rnd (IntKind.wrap IntKind.i64 (p * d1)) n2)), .int .i64 (Prod.snd (rnd (IntKind.wrap IntKind.i64 (p * d1)) n2))])) (.bad 900)) (.br (i == ↑((0 : Nat) + (1 : Nat) + (1 : Nat) + (1 : Nat))) (.br (inR (IntKind.wrap IntKind.i64 (p * d1)) && inR n3) (.ret (false, .tuple #[.int .i64 (Prod.fst (rnd (IntKind.wrap IntKind.i64 (p * d1)) n3)), .int .i64 (Prod.snd (rnd (IntKind.wrap IntKind.i64 (p * d1)) n3))])) (.bad 900)) (.bad 1))))) (.br (i == ↑((0 : Nat) + (1 : Nat) + (1 : Nat))) (.br (i == ↑(0 : Nat)) (.br (inR (IntKind.wrap IntKind.i64 (p * d2)) && inR n0) (.ret (false, .tuple #[.int .i64 (Prod.fst (rnd (IntKind.wrap IntKind.i64 (p * d2)) n0)), .int .i64 (Prod.snd (rnd (IntKind.wrap IntKind.i64 (p * d2)) n0))])) (.bad 900)) (.br (i == ↑((0 : Nat) + (1 : Nat))) (.br (inR (IntKind.wrap IntKind.i64 (p * d2)) && inR n1) (.ret (false, .tuple #[.int .i64 (Prod.fst (rnd (IntKind.wrap IntKind.i64 (p * d2)) n1)), .int .i64 (Prod.snd (rnd (IntKind.wrap IntKind.i64 (p * d2)) n1))])) (.bad 900)) (.br (i == ↑((0 : Nat) + (1 : Nat) + (1 : Nat))) (.br (inR (IntKind.wrap IntKind.i64 (p * d2)) && inR n2) (.ret (false, .tuple #[.int .i64 (Prod.fst (rnd (IntKind.wrap IntKind.i64 (p * d2)) n2)), .int .i64 (Prod.snd (rnd (IntKind.wrap IntKind.i64 (p * d2)) n2))])) (.bad 900)) (.br (i == ↑((0 : Nat) + (1 : Nat) + (1 : Nat) + (1 : Nat))) (.br (inR (IntKind.wrap IntKind.i64 (p * d2)) && inR n3) (.ret (false, .tuple #[.int .i64 (Prod.fst (rnd (IntKind.wrap IntKind.i64 (p * d2)) n3)), .int .i64 (Prod.snd (rnd (IntKind.wrap IntKind.i64 (p * d2)) n3))])) (.bad 900)) (.bad 1))))) (.br (i == ↑((0 : Nat) + (1 : Nat) + (1 : Nat) + (1 : Nat))) (.br (i == ↑(0 : Nat)) (.br (inR (IntKind.wrap IntKind.i64 (p * d3)) && inR n0) (.ret (false, .tuple #[.int .i64 (Prod.fst (rnd (IntKind.wrap IntKind.i64 (p * d3)) n0)), .int .i64 (Prod.snd (rnd (IntKind.wrap IntKind.i64 (p * d3)) n0))])) (.bad 900)) (.br (i == ↑((0 : Nat) + (1 : Nat))) (.br (inR (IntKind.wrap IntKind.i64 (p * d3)) && inR n1) (.ret (false, .tuple #[.int .i64 (Prod.fst (rnd (IntKind.wrap IntKind.i64 (p * d3)) n1)), .int .i64 (Prod.snd (rnd (IntKind.wrap IntKind.i64 (p * d3)) n1))])) (.bad 900)) (.br (i == ↑((0 : Nat) + (1 : Nat) + (1 : Nat))) (.br (inR (IntKind.wrap IntKind.i64 (p * d3)) && inR n2) (.ret (false, .tuple #[.int .i64 (Prod.fst (rnd (IntKind.wrap IntKind.i64 (p * d3)) n2)), .int .i64 (Prod.snd (rnd (IntKind.wrap IntKind.i64 (p * d3)) n2))])) (.bad 900)) (.br (i == ↑((0 : Nat) + (1 : Nat) + (1 : Nat) + (1 : Nat))) (.br (inR (IntKind.wrap IntKind.i64 (p * d3)) && inR n3) (.ret (false, .tuple #[.int .i64 (Prod.fst (rnd (IntKind.wrap IntKind.i64 (p * d3)) n3)), .int .i64 (Prod.snd (rnd (IntKind.wrap IntKind.i64 (p * d3)) n3))])) (.bad 900)) (.bad 1))))) (.bad 1))))) := by kernel_rfl
def ku_g : List (Bool × Value) → Option (Tr (Bool × Value)) := fun z_args => un z_args fun z_a0 z_args0 => unA z_a0.2 fun z_c0 => un z_c0 fun z_x0_0 z_r0_0 => unI .i64 z_x0_0 fun n0 => un z_r0_0 fun z_x0_1 z_r0_1 => unI .i64 z_x0_1 fun d0 => un z_r0_1 fun z_x0_2 z_r0_2 => unI .i64 z_x0_2 fun s0 => un z_r0_2 fun z_x0_3 z_r0_3 => unI .i64 z_x0_3 fun a0 => un z_r0_3 fun z_x0_4 z_r0_4 => unI .i64 z_x0_4 fun j0 => un z_r0_4 fun z_x0_5 z_r0_5 => unI .i64 z_x0_5 fun l0 => un z_r0_5 fun z_x0_6 z_r0_6 => unI .i64 z_x0_6 fun h0 => un z_r0_6 fun z_x0_7 z_r0_7 => unI .i64 z_x0_7 fun n1 => un z_r0_7 fun z_x0_8 z_r0_8 => unI .i64 z_x0_8 fun d1 => un z_r0_8 fun z_x0_9 z_r0_9 => unI .i64 z_x0_9 fun s1 => un z_r0_9 fun z_x0_10 z_r0_10 => unI .i64 z_x0_10 fun a1 => un z_r0_10 fun z_x0_11 z_r0_11 => unI .i64 z_x0_11 fun j1 => un z_r0_11 fun z_x0_12 z_r0_12 => unI .i64 z_x0_12 fun l1 => un z_r0_12 fun z_x0_13 z_r0_13 => unI .i64 z_x0_13 fun h1 => un z_r0_13 fun z_x0_14 z_r0_14 => unI .i64 z_x0_14 fun n2 => un z_r0_14 fun z_x0_15 z_r0_15 => unI .i64 z_x0_15 fun d2 => un z_r0_15 fun z_x0_16 z_r0_16 => unI .i64 z_x0_16 fun s2 => un z_r0_16 fun z_x0_17 z_r0_17 => unI .i64 z_x0_17 fun a2 => un z_r0_17 fun z_x0_18 z_r0_18 => unI .i64 z_x0_18 fun j2 => un z_r0_18 fun z_x0_19 z_r0_19 => unI .i64 z_x0_19 fun l2 => un z_r0_19 fun z_x0_20 z_r0_20 => unI .i64 z_x0_20 fun h2 => un z_r0_20 fun z_x0_21 z_r0_21 => unI .i64 z_x0_21 fun n3 => un z_r0_21 fun z_x0_22 z_r0_22 => unI .i64 z_x0_22 fun d3 => un z_r0_22 fun z_x0_23 z_r0_23 => unI .i64 z_x0_23 fun s3 => un z_r0_23 fun z_x0_24 z_r0_24 => unI .i64 z_x0_24 fun a3 => un z_r0_24 fun z_x0_25 z_r0_25 => unI .i64 z_x0_25 fun j3 => un z_r0_25 fun z_x0_26 z_r0_26 => unI .i64 z_x0_26 fun l3 => un z_r0_26 fun z_x0_27 z_r0_27 => unI .i64 z_x0_27 fun h3 => un z_r0_27 fun z_x0_28 z_r0_28 => unB z_x0_28 fun xy => un z_r0_28 fun z_x0_29 z_r0_29 => unI .i64 z_x0_29 fun tk => unE z_r0_29 <| un z_args0 fun z_a1 z_args1 => unI .i64 z_a1.2 fun i => un z_args1 fun z_a2 z_args2 => unI .i64 z_a2.2 fun p => unE z_args2 <| some (.ret ((z_a0.1 && z_a1.1 && z_a2.1), .tuple #[.int .i64 (kun n0 d0 s0 a0 j0 l0 h0 n1 d1 s1 a1 j1 l1 h1 n2 d2 s2 a2 j2 l2 h2 n3 d3 s3 a3 j3 l3 h3 xy tk i p).1, .int .i64 (kun n0 d0 s0 a0 j0 l0 h0 n1 d1 s1 a1 j1 l1 h1 n2 d2 s2 a2 j2 l2 h2 n3 d3 s3 a3 j3 l3 h3 xy tk i p).2]))
set_option maxHeartbeats 4000000 in
theorem ku_all (n0 d0 s0 a0 j0 l0 h0 n1 d1 s1 a1 j1 l1 h1 n2 d2 s2 a2 j2 l2 h2 n3 d3 s3 a3 j3 l3 h3 : Int) (xy : Bool) (tk i p : Int) : Tr.all (fun r : Bool × Value => r.2 = .tuple #[.int .i64 (kun n0 d0 s0 a0 j0 l0 h0 n1 d1 s1 a1 j1 l1 h1 n2 d2 s2 a2 j2 l2 h2 n3 d3 s3 a3 j3 l3 h3 xy tk i p).1, .int .i64 (kun n0 d0 s0 a0 j0 l0 h0 n1 d1 s1 a1 j1 l1 h1 n2 d2 s2 a2 j2 l2 h2 n3 d3 s3 a3 j3 l3 h3 xy tk i p).2]) (.br (bif bif !kv0 n0 d0 s0 a0 j0 l0 h0 n1 d1 s1 a1 j1 l1 h1 n2 d2 s2 a2 j2 l2 h2 n3 d3 s3 a3 j3 l3 h3 xy tk then true else !bif decide ((0 : Int) ≤ i) then decide (i ≤ (3 : Int)) else false then true else !bif decide ((-70368744177664 : Int) ≤ p) then decide (p ≤ (70368744177664 : Int)) else false) (.ret (true, .tuple #[.int .i64 (0), .int .i64 (1)])) (.br (i == ↑(0 : Nat)) (.br (i == ↑(0 : Nat)) (.br (inR (IntKind.wrap IntKind.i64 (p * d0)) && inR n0) (.ret (false, .tuple #[.int .i64 (Prod.fst (rnd (IntKind.wrap IntKind.i64 (p * d0)) n0)), .int .i64 (Prod.snd (rnd (IntKind.wrap IntKind.i64 (p * d0)) n0))])) (.bad 900)) (.br (i == ↑((0 : Nat) + (1 : Nat))) (.br (inR (IntKind.wrap IntKind.i64 (p * d0)) && inR n1) (.ret (false, .tuple #[.int .i64 (Prod.fst (rnd (IntKind.wrap IntKind.i64 (p * d0)) n1)), .int .i64 (Prod.snd (rnd (IntKind.wrap IntKind.i64 (p * d0)) n1))])) (.bad 900)) (.br (i == ↑((0 : Nat) + (1 : Nat) + (1 : Nat))) (.br (inR (IntKind.wrap IntKind.i64 (p * d0)) && inR n2) (.ret (false, .tuple #[.int .i64 (Prod.fst (rnd (IntKind.wrap IntKind.i64 (p * d0)) n2)), .int .i64 (Prod.snd (rnd (IntKind.wrap IntKind.i64 (p * d0)) n2))])) (.bad 900)) (.br (i == ↑((0 : Nat) + (1 : Nat) + (1 : Nat) + (1 : Nat))) (.br (inR (IntKind.wrap IntKind.i64 (p * d0)) && inR n3) (.ret (false, .tuple #[.int .i64 (Prod.fst (rnd (IntKind.wrap IntKind.i64 (p * d0)) n3)), .int .i64 (Prod.snd (rnd (IntKind.wrap IntKind.i64 (p * d0)) n3))])) (.bad 900)) (.bad 1))))) (.br (i == ↑((0 : Nat) + (1 : Nat))) (.br (i == ↑(0 : Nat)) (.br (inR (IntKind.wrap IntKind.i64 (p * d1)) && inR n0) (.ret (false, .tuple #[.int .i64 (Prod.fst (rnd (IntKind.wrap IntKind.i64 (p * d1)) n0)), .int .i64 (Prod.snd (rnd (IntKind.wrap IntKind.i64 (p * d1)) n0))])) (.bad 900)) (.br (i == ↑((0 : Nat) + (1 : Nat))) (.br (inR (IntKind.wrap IntKind.i64 (p * d1)) && inR n1) (.ret (false, .tuple #[.int .i64 (Prod.fst (rnd (IntKind.wrap IntKind.i64 (p * d1)) n1)), .int .i64 (Prod.snd (rnd (IntKind.wrap IntKind.i64 (p * d1)) n1))])) (.bad 900)) (.br (i == ↑((0 : Nat) + (1 : Nat) + (1 : Nat))) (.br (inR (IntKind.wrap IntKind.i64 (p * d1)) && inR n2) (.ret (false, .tuple #[.int .i64 (Prod.fst (rnd (IntKind.wrap IntKind.i64 (p * d1)) n2)), .int .i64 (Prod.snd (rnd (IntKind.wrap IntKind.i64 (p * d1)) n2))])) (.bad 900)) (.br (i == ↑((0 : Nat) + (1 : Nat) + (1 : Nat) + (1 : Nat))) (.br (inR (IntKind.wrap IntKind.i64 (p * d1)) && inR n3) (.ret (false, .tuple #[.int .i64 (Prod.fst (rnd (IntKind.wrap IntKind.i64 (p * d1)) n3)), .int .i64 (Prod.snd (rnd (IntKind.wrap IntKind.i64 (p * d1)) n3))])) (.bad 900)) (.bad 1))))) (.br (i == ↑((0 : Nat) + (1 : Nat) + (1 : Nat))) (.br (i == ↑(0 : Nat)) (.br (inR (IntKind.wrap IntKind.i64 (p * d2)) && inR n0) (.ret (false, .tuple #[.int .i64 (Prod.fst (rnd (IntKind.wrap IntKind.i64 (p * d2)) n0)), .int .i64 (Prod.snd (rnd (IntKind.wrap IntKind.i64 (p * d2)) n0))])) (.bad 900)) (.br (i == ↑((0 : Nat) + (1 : Nat))) (.br (inR (IntKind.wrap IntKind.i64 (p * d2)) && inR n1) (.ret (false, .tuple #[.int .i64 (Prod.fst (rnd (IntKind.wrap IntKind.i64 (p * d2)) n1)), .int .i64 (Prod.snd (rnd (IntKind.wrap IntKind.i64 (p * d2)) n1))])) (.bad 900)) (.br (i == ↑((0 : Nat) + (1 : Nat) + (1 : Nat))) (.br (inR (IntKind.wrap IntKind.i64 (p * d2)) && inR n2) (.ret (false, .tuple #[.int .i64 (Prod.fst (rnd (IntKind.wrap IntKind.i64 (p * d2)) n2)), .int .i64 (Prod.snd (rnd (IntKind.wrap IntKind.i64 (p * d2)) n2))])) (.bad 900)) (.br (i == ↑((0 : Nat) + (1 : Nat) + (1 : Nat) + (1 : Nat))) (.br (inR (IntKind.wrap IntKind.i64 (p * d2)) && inR n3) (.ret (false, .tuple #[.int .i64 (Prod.fst (rnd (IntKind.wrap IntKind.i64 (p * d2)) n3)), .int .i64 (Prod.snd (rnd (IntKind.wrap IntKind.i64 (p * d2)) n3))])) (.bad 900)) (.bad 1))))) (.br (i == ↑((0 : Nat) + (1 : Nat) + (1 : Nat) + (1 : Nat))) (.br (i == ↑(0 : Nat)) (.br (inR (IntKind.wrap IntKind.i64 (p * d3)) && inR n0) (.ret (false, .tuple #[.int .i64 (Prod.fst (rnd (IntKind.wrap IntKind.i64 (p * d3)) n0)), .int .i64 (Prod.snd (rnd (IntKind.wrap IntKind.i64 (p * d3)) n0))])) (.bad 900)) (.br (i == ↑((0 : Nat) + (1 : Nat))) (.br (inR (IntKind.wrap IntKind.i64 (p * d3)) && inR n1) (.ret (false, .tuple #[.int .i64 (Prod.fst (rnd (IntKind.wrap IntKind.i64 (p * d3)) n1)), .int .i64 (Prod.snd (rnd (IntKind.wrap IntKind.i64 (p * d3)) n1))])) (.bad 900)) (.br (i == ↑((0 : Nat) + (1 : Nat) + (1 : Nat))) (.br (inR (IntKind.wrap IntKind.i64 (p * d3)) && inR n2) (.ret (false, .tuple #[.int .i64 (Prod.fst (rnd (IntKind.wrap IntKind.i64 (p * d3)) n2)), .int .i64 (Prod.snd (rnd (IntKind.wrap IntKind.i64 (p * d3)) n2))])) (.bad 900)) (.br (i == ↑((0 : Nat) + (1 : Nat) + (1 : Nat) + (1 : Nat))) (.br (inR (IntKind.wrap IntKind.i64 (p * d3)) && inR n3) (.ret (false, .tuple #[.int .i64 (Prod.fst (rnd (IntKind.wrap IntKind.i64 (p * d3)) n3)), .int .i64 (Prod.snd (rnd (IntKind.wrap IntKind.i64 (p * d3)) n3))])) (.bad 900)) (.bad 1))))) (.bad 1))))) : Tr (Bool × Value)) := by
    by_cases hv : kv0 n0 d0 s0 a0 j0 l0 h0 n1 d1 s1 a1 j1 l1 h1 n2 d2 s2 a2 j2 l2 h2 n3 d3 s3 a3 j3 l3 h3 xy tk = true
    case neg =>
      have hv' : kv0 n0 d0 s0 a0 j0 l0 h0 n1 d1 s1 a1 j1 l1 h1 n2 d2 s2 a2 j2 l2 h2 n3 d3 s3 a3 j3 l3 h3 xy tk = false := by simpa using hv
      simp [Tr.all, kun, hv']
    obtain ⟨⟨_, _, _, _⟩, ⟨_, _, _, _⟩, ⟨_, _, _, _⟩, ⟨_, _, _, _⟩⟩ := kv_spec hv
    by_cases hi : 0 ≤ i ∧ i ≤ 3 ∧ -70368744177664 ≤ p ∧ p ≤ 70368744177664
    case neg =>
      have hb : (bif bif !kv0 n0 d0 s0 a0 j0 l0 h0 n1 d1 s1 a1 j1 l1 h1 n2 d2 s2 a2 j2 l2 h2 n3 d3 s3 a3 j3 l3 h3 xy tk then true else !bif decide ((0 : Int) ≤ i) then decide (i ≤ (3 : Int)) else false then true else !bif decide ((-70368744177664 : Int) ≤ p) then decide (p ≤ (70368744177664 : Int)) else false) = true := by rw [hv]; simp; omega
      refine ⟨fun _ => ?_, fun h => ?_⟩
      · simp only [Tr.all, kun, hv]; rw [if_neg (by simpa using hi)]
      · rw [hb] at h; cases h
    obtain ⟨i0, i1, p0, p1⟩ := hi
    refine ⟨fun h => ?_, fun _ => ?_⟩
    · rw [hv] at h; simp at h; omega
    have q : kun n0 d0 s0 a0 j0 l0 h0 n1 d1 s1 a1 j1 l1 h1 n2 d2 s2 a2 j2 l2 h2 n3 d3 s3 a3 j3 l3 h3 xy tk i p = rnd (p * ax i d0 d1 d2 d3) (ax i n0 n1 n2 n3) := if_pos ⟨hv, i0, i1, p0, p1⟩
    rw [q]
    obtain ⟨w0, v0⟩ := wrap_mul (p := p) (n := d0) (k := 70368744177664) (by omega) (by omega) p0 p1 (by omega) (by omega)
    obtain ⟨w1, v1⟩ := wrap_mul (p := p) (n := d1) (k := 70368744177664) (by omega) (by omega) p0 p1 (by omega) (by omega)
    obtain ⟨w2, v2⟩ := wrap_mul (p := p) (n := d2) (k := 70368744177664) (by omega) (by omega) p0 p1 (by omega) (by omega)
    obtain ⟨w3, v3⟩ := wrap_mul (p := p) (n := d3) (k := 70368744177664) (by omega) (by omega) p0 p1 (by omega) (by omega)
    have u0 : inR n0 = true := inR_of (n := 65536) (by omega) (by omega) (by omega)
    have u1 : inR n1 = true := inR_of (n := 65536) (by omega) (by omega) (by omega)
    have u2 : inR n2 = true := inR_of (n := 65536) (by omega) (by omega) (by omega)
    have u3 : inR n3 = true := inR_of (n := 65536) (by omega) (by omega) (by omega)
    obtain rfl | rfl | rfl | rfl : i = 0 ∨ i = 1 ∨ i = 2 ∨ i = 3 := by omega
    all_goals simp [Tr.all, ax, w0, w1, w2, w3, v0, v1, v2, v3, u0, u1, u2, u3]
theorem ku_ok : ∀ args t, ku_g args = some t → ∀ r, t.val = some r → ∀ w, Calls Try.prog 22 (args.map (·.2)).toArray w fun e w' => e = .returned r.2 ∧ Ext w w' := by
  intro z_args z_t z_h0 z_r z_hr z_w
  unfold ku_g at z_h0
  obtain ⟨z_a0, z_args0, rfl, z_h1⟩ := un_some z_h0
  obtain ⟨z_kn0, z_v0⟩ := z_a0
  (try dsimp only at z_h1)
  obtain ⟨z_c0, rfl, z_h2⟩ := unA_some z_h1
  obtain ⟨z_x0_0, z_r0_0, rfl, z_h3⟩ := un_some z_h2
  obtain ⟨n0, rfl, z_h4⟩ := unI_some z_h3
  obtain ⟨z_x0_1, z_r0_1, rfl, z_h5⟩ := un_some z_h4
  obtain ⟨d0, rfl, z_h6⟩ := unI_some z_h5
  obtain ⟨z_x0_2, z_r0_2, rfl, z_h7⟩ := un_some z_h6
  obtain ⟨s0, rfl, z_h8⟩ := unI_some z_h7
  obtain ⟨z_x0_3, z_r0_3, rfl, z_h9⟩ := un_some z_h8
  obtain ⟨a0, rfl, z_h10⟩ := unI_some z_h9
  obtain ⟨z_x0_4, z_r0_4, rfl, z_h11⟩ := un_some z_h10
  obtain ⟨j0, rfl, z_h12⟩ := unI_some z_h11
  obtain ⟨z_x0_5, z_r0_5, rfl, z_h13⟩ := un_some z_h12
  obtain ⟨l0, rfl, z_h14⟩ := unI_some z_h13
  obtain ⟨z_x0_6, z_r0_6, rfl, z_h15⟩ := un_some z_h14
  obtain ⟨h0, rfl, z_h16⟩ := unI_some z_h15
  obtain ⟨z_x0_7, z_r0_7, rfl, z_h17⟩ := un_some z_h16
  obtain ⟨n1, rfl, z_h18⟩ := unI_some z_h17
  obtain ⟨z_x0_8, z_r0_8, rfl, z_h19⟩ := un_some z_h18
  obtain ⟨d1, rfl, z_h20⟩ := unI_some z_h19
  obtain ⟨z_x0_9, z_r0_9, rfl, z_h21⟩ := un_some z_h20
  obtain ⟨s1, rfl, z_h22⟩ := unI_some z_h21
  obtain ⟨z_x0_10, z_r0_10, rfl, z_h23⟩ := un_some z_h22
  obtain ⟨a1, rfl, z_h24⟩ := unI_some z_h23
  obtain ⟨z_x0_11, z_r0_11, rfl, z_h25⟩ := un_some z_h24
  obtain ⟨j1, rfl, z_h26⟩ := unI_some z_h25
  obtain ⟨z_x0_12, z_r0_12, rfl, z_h27⟩ := un_some z_h26
  obtain ⟨l1, rfl, z_h28⟩ := unI_some z_h27
  obtain ⟨z_x0_13, z_r0_13, rfl, z_h29⟩ := un_some z_h28
  obtain ⟨h1, rfl, z_h30⟩ := unI_some z_h29
  obtain ⟨z_x0_14, z_r0_14, rfl, z_h31⟩ := un_some z_h30
  obtain ⟨n2, rfl, z_h32⟩ := unI_some z_h31
  obtain ⟨z_x0_15, z_r0_15, rfl, z_h33⟩ := un_some z_h32
  obtain ⟨d2, rfl, z_h34⟩ := unI_some z_h33
  obtain ⟨z_x0_16, z_r0_16, rfl, z_h35⟩ := un_some z_h34
  obtain ⟨s2, rfl, z_h36⟩ := unI_some z_h35
  obtain ⟨z_x0_17, z_r0_17, rfl, z_h37⟩ := un_some z_h36
  obtain ⟨a2, rfl, z_h38⟩ := unI_some z_h37
  obtain ⟨z_x0_18, z_r0_18, rfl, z_h39⟩ := un_some z_h38
  obtain ⟨j2, rfl, z_h40⟩ := unI_some z_h39
  obtain ⟨z_x0_19, z_r0_19, rfl, z_h41⟩ := un_some z_h40
  obtain ⟨l2, rfl, z_h42⟩ := unI_some z_h41
  obtain ⟨z_x0_20, z_r0_20, rfl, z_h43⟩ := un_some z_h42
  obtain ⟨h2, rfl, z_h44⟩ := unI_some z_h43
  obtain ⟨z_x0_21, z_r0_21, rfl, z_h45⟩ := un_some z_h44
  obtain ⟨n3, rfl, z_h46⟩ := unI_some z_h45
  obtain ⟨z_x0_22, z_r0_22, rfl, z_h47⟩ := un_some z_h46
  obtain ⟨d3, rfl, z_h48⟩ := unI_some z_h47
  obtain ⟨z_x0_23, z_r0_23, rfl, z_h49⟩ := un_some z_h48
  obtain ⟨s3, rfl, z_h50⟩ := unI_some z_h49
  obtain ⟨z_x0_24, z_r0_24, rfl, z_h51⟩ := un_some z_h50
  obtain ⟨a3, rfl, z_h52⟩ := unI_some z_h51
  obtain ⟨z_x0_25, z_r0_25, rfl, z_h53⟩ := un_some z_h52
  obtain ⟨j3, rfl, z_h54⟩ := unI_some z_h53
  obtain ⟨z_x0_26, z_r0_26, rfl, z_h55⟩ := un_some z_h54
  obtain ⟨l3, rfl, z_h56⟩ := unI_some z_h55
  obtain ⟨z_x0_27, z_r0_27, rfl, z_h57⟩ := un_some z_h56
  obtain ⟨h3, rfl, z_h58⟩ := unI_some z_h57
  obtain ⟨z_x0_28, z_r0_28, rfl, z_h59⟩ := un_some z_h58
  obtain ⟨xy, rfl, z_h60⟩ := unB_some z_h59
  obtain ⟨z_x0_29, z_r0_29, rfl, z_h61⟩ := un_some z_h60
  obtain ⟨tk, rfl, z_h62⟩ := unI_some z_h61
  obtain ⟨rfl, z_h63⟩ := unE_some z_h62
  obtain ⟨z_a1, z_args1, rfl, z_h64⟩ := un_some z_h63
  obtain ⟨z_kn1, z_v1⟩ := z_a1
  (try dsimp only at z_h64)
  obtain ⟨i, rfl, z_h65⟩ := unI_some z_h64
  obtain ⟨z_a2, z_args2, rfl, z_h66⟩ := un_some z_h65
  obtain ⟨z_kn2, z_v2⟩ := z_a2
  (try dsimp only at z_h66)
  obtain ⟨p, rfl, z_h67⟩ := unI_some z_h66
  obtain ⟨rfl, z_h68⟩ := unE_some z_h67
  simp only [Option.some.injEq] at z_h68
  subst z_h68
  simp only [Tr.val, Option.some.injEq] at z_hr
  subst z_hr
  exact calls_of_tree (by kernel_rfl) (kiC_S4_ok) (ku_tree n0 d0 s0 a0 j0 l0 h0 n1 d1 s1 a1 j1 l1 h1 n2 d2 s2 a2 j2 l2 h2 n3 d3 s3 a3 j3 l3 h3 xy tk i p) (ku_all n0 d0 s0 a0 j0 l0 h0 n1 d1 s1 a1 j1 l1 h1 n2 d2 s2 a2 j2 l2 h2 n3 d3 s3 a3 j3 l3 h3 xy tk i p) z_w
def kiC_S5 : Sums := addS 22 ku_g kiC_S4
theorem kiC_S5_ok : SumOK Try.prog kiC_S5 := addS_ok ku_ok (kiC_S4_ok)
set_option maxRecDepth 100000 in
theorem ru_tree (n0 d0 s0 a0 j0 l0 h0 n1 d1 s1 a1 j1 l1 h1 n2 d2 s2 a2 j2 l2 h2 n3 d3 s3 a3 j3 l3 h3 : Int) (xy : Bool) (tk i p : Int) : evalF Try.prog kiC_S5 6 23 [(false, .agg #[.int .i64 n0, .int .i64 d0, .int .i64 s0, .int .i64 a0, .int .i64 j0, .int .i64 l0, .int .i64 h0, .int .i64 n1, .int .i64 d1, .int .i64 s1, .int .i64 a1, .int .i64 j1, .int .i64 l1, .int .i64 h1, .int .i64 n2, .int .i64 d2, .int .i64 s2, .int .i64 a2, .int .i64 j2, .int .i64 l2, .int .i64 h2, .int .i64 n3, .int .i64 d3, .int .i64 s3, .int .i64 a3, .int .i64 j3, .int .i64 l3, .int .i64 h3, .bool xy, .int .i64 tk]), (false, .int .i64 i), (false, .int .i64 p)] = .br (bif bif bif bif !kv0 n0 d0 s0 a0 j0 l0 h0 n1 d1 s1 a1 j1 l1 h1 n2 d2 s2 a2 j2 l2 h2 n3 d3 s3 a3 j3 l3 h3 xy tk then true else decide (i < (0 : Int)) then true else decide (i ≥ (4 : Int)) then true else decide (p < (-70368744177664 : Int)) then true else decide (p > (70368744177664 : Int))) (.ret (true, .tuple #[.int .i64 (0), .int .i64 (1)])) (.br (i == ↑(0 : Nat)) (.br (i == ↑(0 : Nat)) (.br (inR (IntKind.wrap IntKind.i64 (p * d0)) && inR n0) (.ret (false, .tuple #[.int .i64 (Prod.fst (rnd (IntKind.wrap IntKind.i64 (p * d0)) n0)), .int .i64 (Prod.snd (rnd (IntKind.wrap IntKind.i64 (p * d0)) n0))])) (.bad 900)) (.br (i == ↑((0 : Nat) + (1 : Nat))) (.br (inR (IntKind.wrap IntKind.i64 (p * d0)) && inR n1) (.ret (false, .tuple #[.int .i64 (Prod.fst (rnd (IntKind.wrap IntKind.i64 (p * d0)) n1)), .int .i64 (Prod.snd (rnd (IntKind.wrap IntKind.i64 (p * d0)) n1))])) (.bad 900)) (.br (i == ↑((0 : Nat) + (1 : Nat) + (1 : Nat))) (.br (inR (IntKind.wrap IntKind.i64 (p * d0)) && inR n2) (.ret (false, .tuple #[.int .i64 (Prod.fst (rnd (IntKind.wrap IntKind.i64 (p * d0)) n2)), .int .i64 (Prod.snd (rnd (IntKind.wrap IntKind.i64 (p * d0)) n2))])) (.bad 900)) (.br (i == ↑((0 : Nat) + (1 : Nat) + (1 : Nat) + (1 : Nat))) (.br (inR (IntKind.wrap IntKind.i64 (p * d0)) && inR n3) (.ret (false, .tuple #[.int .i64 (Prod.fst (rnd (IntKind.wrap IntKind.i64 (p * d0)) n3)), .int .i64 (Prod.snd (rnd (IntKind.wrap IntKind.i64 (p * d0)) n3))])) (.bad 900)) (.bad 1))))) (.br (i == ↑((0 : Nat) + (1 : Nat))) (.br (i == ↑(0 : Nat)) (.br (inR (IntKind.wrap IntKind.i64 (p * d1)) && inR n0) (.ret (false, .tuple #[.int .i64 (Prod.fst (rnd (IntKind.wrap IntKind.i64 (p * d1)) n0)), .int .i64 (Prod.snd (rnd (IntKind.wrap IntKind.i64 (p * d1)) n0))])) (.bad 900)) (.br (i == ↑((0 : Nat) + (1 : Nat))) (.br (inR (IntKind.wrap IntKind.i64 (p * d1)) && inR n1) (.ret (false, .tuple #[.int .i64 (Prod.fst (rnd (IntKind.wrap IntKind.i64 (p * d1)) n1)), .int .i64 (Prod.snd (rnd (IntKind.wrap IntKind.i64 (p * d1)) n1))])) (.bad 900)) (.br (i == ↑((0 : Nat) + (1 : Nat) + (1 : Nat))) (.br (inR (IntKind.wrap IntKind.i64 (p * d1)) && inR n2) (.ret (false, .tuple #[.int .i64 (Prod.fst (rnd (IntKind.wrap IntKind.i64 (p * d1)) n2)), .int .i64 (Prod.snd (rnd (IntKind.wrap IntKind.i64 (p * d1)) n2))])) (.bad 900)) (.br (i == ↑((0 : Nat) + (1 : Nat) + (1 : Nat) + (1 : Nat))) (.br (inR (IntKind.wrap IntKind.i64 (p * d1)) && inR n3) (.ret (false, .tuple #[.int .i64 (Prod.fst (rnd (IntKind.wrap IntKind.i64 (p * d1)) n3)), .int .i64 (Prod.snd (rnd (IntKind.wrap IntKind.i64 (p * d1)) n3))])) (.bad 900)) (.bad 1))))) (.br (i == ↑((0 : Nat) + (1 : Nat) + (1 : Nat))) (.br (i == ↑(0 : Nat)) (.br (inR (IntKind.wrap IntKind.i64 (p * d2)) && inR n0) (.ret (false, .tuple #[.int .i64 (Prod.fst (rnd (IntKind.wrap IntKind.i64 (p * d2)) n0)), .int .i64 (Prod.snd (rnd (IntKind.wrap IntKind.i64 (p * d2)) n0))])) (.bad 900)) (.br (i == ↑((0 : Nat) + (1 : Nat))) (.br (inR (IntKind.wrap IntKind.i64 (p * d2)) && inR n1) (.ret (false, .tuple #[.int .i64 (Prod.fst (rnd (IntKind.wrap IntKind.i64 (p * d2)) n1)), .int .i64 (Prod.snd (rnd (IntKind.wrap IntKind.i64 (p * d2)) n1))])) (.bad 900)) (.br (i == ↑((0 : Nat) + (1 : Nat) + (1 : Nat))) (.br (inR (IntKind.wrap IntKind.i64 (p * d2)) && inR n2) (.ret (false, .tuple #[.int .i64 (Prod.fst (rnd (IntKind.wrap IntKind.i64 (p * d2)) n2)), .int .i64 (Prod.snd (rnd (IntKind.wrap IntKind.i64 (p * d2)) n2))])) (.bad 900)) (.br (i == ↑((0 : Nat) + (1 : Nat) + (1 : Nat) + (1 : Nat))) (.br (inR (IntKind.wrap IntKind.i64 (p * d2)) && inR n3) (.ret (false, .tuple #[.int .i64 (Prod.fst (rnd (IntKind.wrap IntKind.i64 (p * d2)) n3)), .int .i64 (Prod.snd (rnd (IntKind.wrap IntKind.i64 (p * d2)) n3))])) (.bad 900)) (.bad 1))))) (.br (i == ↑((0 : Nat) + (1 : Nat) + (1 : Nat) + (1 : Nat))) (.br (i == ↑(0 : Nat)) (.br (inR (IntKind.wrap IntKind.i64 (p * d3)) && inR n0) (.ret (false, .tuple #[.int .i64 (Prod.fst (rnd (IntKind.wrap IntKind.i64 (p * d3)) n0)), .int .i64 (Prod.snd (rnd (IntKind.wrap IntKind.i64 (p * d3)) n0))])) (.bad 900)) (.br (i == ↑((0 : Nat) + (1 : Nat))) (.br (inR (IntKind.wrap IntKind.i64 (p * d3)) && inR n1) (.ret (false, .tuple #[.int .i64 (Prod.fst (rnd (IntKind.wrap IntKind.i64 (p * d3)) n1)), .int .i64 (Prod.snd (rnd (IntKind.wrap IntKind.i64 (p * d3)) n1))])) (.bad 900)) (.br (i == ↑((0 : Nat) + (1 : Nat) + (1 : Nat))) (.br (inR (IntKind.wrap IntKind.i64 (p * d3)) && inR n2) (.ret (false, .tuple #[.int .i64 (Prod.fst (rnd (IntKind.wrap IntKind.i64 (p * d3)) n2)), .int .i64 (Prod.snd (rnd (IntKind.wrap IntKind.i64 (p * d3)) n2))])) (.bad 900)) (.br (i == ↑((0 : Nat) + (1 : Nat) + (1 : Nat) + (1 : Nat))) (.br (inR (IntKind.wrap IntKind.i64 (p * d3)) && inR n3) (.ret (false, .tuple #[.int .i64 (Prod.fst (rnd (IntKind.wrap IntKind.i64 (p * d3)) n3)), .int .i64 (Prod.snd (rnd (IntKind.wrap IntKind.i64 (p * d3)) n3))])) (.bad 900)) (.bad 1))))) (.bad 1))))) := by kernel_rfl
set_option maxHeartbeats 4000000 in
theorem ru_all (n0 d0 s0 a0 j0 l0 h0 n1 d1 s1 a1 j1 l1 h1 n2 d2 s2 a2 j2 l2 h2 n3 d3 s3 a3 j3 l3 h3 : Int) (xy : Bool) (tk i p : Int) : Tr.all (fun r : Bool × Value => r.2 = .tuple #[.int .i64 (kun n0 d0 s0 a0 j0 l0 h0 n1 d1 s1 a1 j1 l1 h1 n2 d2 s2 a2 j2 l2 h2 n3 d3 s3 a3 j3 l3 h3 xy tk i p).1, .int .i64 (kun n0 d0 s0 a0 j0 l0 h0 n1 d1 s1 a1 j1 l1 h1 n2 d2 s2 a2 j2 l2 h2 n3 d3 s3 a3 j3 l3 h3 xy tk i p).2]) (.br (bif bif bif bif !kv0 n0 d0 s0 a0 j0 l0 h0 n1 d1 s1 a1 j1 l1 h1 n2 d2 s2 a2 j2 l2 h2 n3 d3 s3 a3 j3 l3 h3 xy tk then true else decide (i < (0 : Int)) then true else decide (i ≥ (4 : Int)) then true else decide (p < (-70368744177664 : Int)) then true else decide (p > (70368744177664 : Int))) (.ret (true, .tuple #[.int .i64 (0), .int .i64 (1)])) (.br (i == ↑(0 : Nat)) (.br (i == ↑(0 : Nat)) (.br (inR (IntKind.wrap IntKind.i64 (p * d0)) && inR n0) (.ret (false, .tuple #[.int .i64 (Prod.fst (rnd (IntKind.wrap IntKind.i64 (p * d0)) n0)), .int .i64 (Prod.snd (rnd (IntKind.wrap IntKind.i64 (p * d0)) n0))])) (.bad 900)) (.br (i == ↑((0 : Nat) + (1 : Nat))) (.br (inR (IntKind.wrap IntKind.i64 (p * d0)) && inR n1) (.ret (false, .tuple #[.int .i64 (Prod.fst (rnd (IntKind.wrap IntKind.i64 (p * d0)) n1)), .int .i64 (Prod.snd (rnd (IntKind.wrap IntKind.i64 (p * d0)) n1))])) (.bad 900)) (.br (i == ↑((0 : Nat) + (1 : Nat) + (1 : Nat))) (.br (inR (IntKind.wrap IntKind.i64 (p * d0)) && inR n2) (.ret (false, .tuple #[.int .i64 (Prod.fst (rnd (IntKind.wrap IntKind.i64 (p * d0)) n2)), .int .i64 (Prod.snd (rnd (IntKind.wrap IntKind.i64 (p * d0)) n2))])) (.bad 900)) (.br (i == ↑((0 : Nat) + (1 : Nat) + (1 : Nat) + (1 : Nat))) (.br (inR (IntKind.wrap IntKind.i64 (p * d0)) && inR n3) (.ret (false, .tuple #[.int .i64 (Prod.fst (rnd (IntKind.wrap IntKind.i64 (p * d0)) n3)), .int .i64 (Prod.snd (rnd (IntKind.wrap IntKind.i64 (p * d0)) n3))])) (.bad 900)) (.bad 1))))) (.br (i == ↑((0 : Nat) + (1 : Nat))) (.br (i == ↑(0 : Nat)) (.br (inR (IntKind.wrap IntKind.i64 (p * d1)) && inR n0) (.ret (false, .tuple #[.int .i64 (Prod.fst (rnd (IntKind.wrap IntKind.i64 (p * d1)) n0)), .int .i64 (Prod.snd (rnd (IntKind.wrap IntKind.i64 (p * d1)) n0))])) (.bad 900)) (.br (i == ↑((0 : Nat) + (1 : Nat))) (.br (inR (IntKind.wrap IntKind.i64 (p * d1)) && inR n1) (.ret (false, .tuple #[.int .i64 (Prod.fst (rnd (IntKind.wrap IntKind.i64 (p * d1)) n1)), .int .i64 (Prod.snd (rnd (IntKind.wrap IntKind.i64 (p * d1)) n1))])) (.bad 900)) (.br (i == ↑((0 : Nat) + (1 : Nat) + (1 : Nat))) (.br (inR (IntKind.wrap IntKind.i64 (p * d1)) && inR n2) (.ret (false, .tuple #[.int .i64 (Prod.fst (rnd (IntKind.wrap IntKind.i64 (p * d1)) n2)), .int .i64 (Prod.snd (rnd (IntKind.wrap IntKind.i64 (p * d1)) n2))])) (.bad 900)) (.br (i == ↑((0 : Nat) + (1 : Nat) + (1 : Nat) + (1 : Nat))) (.br (inR (IntKind.wrap IntKind.i64 (p * d1)) && inR n3) (.ret (false, .tuple #[.int .i64 (Prod.fst (rnd (IntKind.wrap IntKind.i64 (p * d1)) n3)), .int .i64 (Prod.snd (rnd (IntKind.wrap IntKind.i64 (p * d1)) n3))])) (.bad 900)) (.bad 1))))) (.br (i == ↑((0 : Nat) + (1 : Nat) + (1 : Nat))) (.br (i == ↑(0 : Nat)) (.br (inR (IntKind.wrap IntKind.i64 (p * d2)) && inR n0) (.ret (false, .tuple #[.int .i64 (Prod.fst (rnd (IntKind.wrap IntKind.i64 (p * d2)) n0)), .int .i64 (Prod.snd (rnd (IntKind.wrap IntKind.i64 (p * d2)) n0))])) (.bad 900)) (.br (i == ↑((0 : Nat) + (1 : Nat))) (.br (inR (IntKind.wrap IntKind.i64 (p * d2)) && inR n1) (.ret (false, .tuple #[.int .i64 (Prod.fst (rnd (IntKind.wrap IntKind.i64 (p * d2)) n1)), .int .i64 (Prod.snd (rnd (IntKind.wrap IntKind.i64 (p * d2)) n1))])) (.bad 900)) (.br (i == ↑((0 : Nat) + (1 : Nat) + (1 : Nat))) (.br (inR (IntKind.wrap IntKind.i64 (p * d2)) && inR n2) (.ret (false, .tuple #[.int .i64 (Prod.fst (rnd (IntKind.wrap IntKind.i64 (p * d2)) n2)), .int .i64 (Prod.snd (rnd (IntKind.wrap IntKind.i64 (p * d2)) n2))])) (.bad 900)) (.br (i == ↑((0 : Nat) + (1 : Nat) + (1 : Nat) + (1 : Nat))) (.br (inR (IntKind.wrap IntKind.i64 (p * d2)) && inR n3) (.ret (false, .tuple #[.int .i64 (Prod.fst (rnd (IntKind.wrap IntKind.i64 (p * d2)) n3)), .int .i64 (Prod.snd (rnd (IntKind.wrap IntKind.i64 (p * d2)) n3))])) (.bad 900)) (.bad 1))))) (.br (i == ↑((0 : Nat) + (1 : Nat) + (1 : Nat) + (1 : Nat))) (.br (i == ↑(0 : Nat)) (.br (inR (IntKind.wrap IntKind.i64 (p * d3)) && inR n0) (.ret (false, .tuple #[.int .i64 (Prod.fst (rnd (IntKind.wrap IntKind.i64 (p * d3)) n0)), .int .i64 (Prod.snd (rnd (IntKind.wrap IntKind.i64 (p * d3)) n0))])) (.bad 900)) (.br (i == ↑((0 : Nat) + (1 : Nat))) (.br (inR (IntKind.wrap IntKind.i64 (p * d3)) && inR n1) (.ret (false, .tuple #[.int .i64 (Prod.fst (rnd (IntKind.wrap IntKind.i64 (p * d3)) n1)), .int .i64 (Prod.snd (rnd (IntKind.wrap IntKind.i64 (p * d3)) n1))])) (.bad 900)) (.br (i == ↑((0 : Nat) + (1 : Nat) + (1 : Nat))) (.br (inR (IntKind.wrap IntKind.i64 (p * d3)) && inR n2) (.ret (false, .tuple #[.int .i64 (Prod.fst (rnd (IntKind.wrap IntKind.i64 (p * d3)) n2)), .int .i64 (Prod.snd (rnd (IntKind.wrap IntKind.i64 (p * d3)) n2))])) (.bad 900)) (.br (i == ↑((0 : Nat) + (1 : Nat) + (1 : Nat) + (1 : Nat))) (.br (inR (IntKind.wrap IntKind.i64 (p * d3)) && inR n3) (.ret (false, .tuple #[.int .i64 (Prod.fst (rnd (IntKind.wrap IntKind.i64 (p * d3)) n3)), .int .i64 (Prod.snd (rnd (IntKind.wrap IntKind.i64 (p * d3)) n3))])) (.bad 900)) (.bad 1))))) (.bad 1))))) : Tr (Bool × Value)) := by
    by_cases hv : kv0 n0 d0 s0 a0 j0 l0 h0 n1 d1 s1 a1 j1 l1 h1 n2 d2 s2 a2 j2 l2 h2 n3 d3 s3 a3 j3 l3 h3 xy tk = true
    case neg =>
      have hv' : kv0 n0 d0 s0 a0 j0 l0 h0 n1 d1 s1 a1 j1 l1 h1 n2 d2 s2 a2 j2 l2 h2 n3 d3 s3 a3 j3 l3 h3 xy tk = false := by simpa using hv
      simp [Tr.all, kun, hv']
    obtain ⟨⟨_, _, _, _⟩, ⟨_, _, _, _⟩, ⟨_, _, _, _⟩, ⟨_, _, _, _⟩⟩ := kv_spec hv
    by_cases hi : 0 ≤ i ∧ i ≤ 3 ∧ -70368744177664 ≤ p ∧ p ≤ 70368744177664
    case neg =>
      have hb : (bif bif bif bif !kv0 n0 d0 s0 a0 j0 l0 h0 n1 d1 s1 a1 j1 l1 h1 n2 d2 s2 a2 j2 l2 h2 n3 d3 s3 a3 j3 l3 h3 xy tk then true else decide (i < (0 : Int)) then true else decide (i ≥ (4 : Int)) then true else decide (p < (-70368744177664 : Int)) then true else decide (p > (70368744177664 : Int))) = true := by rw [hv]; simp; omega
      refine ⟨fun _ => ?_, fun h => ?_⟩
      · simp only [Tr.all, kun, hv]; rw [if_neg (by simpa using hi)]
      · rw [hb] at h; cases h
    obtain ⟨i0, i1, p0, p1⟩ := hi
    refine ⟨fun h => ?_, fun _ => ?_⟩
    · rw [hv] at h; simp at h; omega
    have q : kun n0 d0 s0 a0 j0 l0 h0 n1 d1 s1 a1 j1 l1 h1 n2 d2 s2 a2 j2 l2 h2 n3 d3 s3 a3 j3 l3 h3 xy tk i p = rnd (p * ax i d0 d1 d2 d3) (ax i n0 n1 n2 n3) := if_pos ⟨hv, i0, i1, p0, p1⟩
    rw [q]
    obtain ⟨w0, v0⟩ := wrap_mul (p := p) (n := d0) (k := 70368744177664) (by omega) (by omega) p0 p1 (by omega) (by omega)
    obtain ⟨w1, v1⟩ := wrap_mul (p := p) (n := d1) (k := 70368744177664) (by omega) (by omega) p0 p1 (by omega) (by omega)
    obtain ⟨w2, v2⟩ := wrap_mul (p := p) (n := d2) (k := 70368744177664) (by omega) (by omega) p0 p1 (by omega) (by omega)
    obtain ⟨w3, v3⟩ := wrap_mul (p := p) (n := d3) (k := 70368744177664) (by omega) (by omega) p0 p1 (by omega) (by omega)
    have u0 : inR n0 = true := inR_of (n := 65536) (by omega) (by omega) (by omega)
    have u1 : inR n1 = true := inR_of (n := 65536) (by omega) (by omega) (by omega)
    have u2 : inR n2 = true := inR_of (n := 65536) (by omega) (by omega) (by omega)
    have u3 : inR n3 = true := inR_of (n := 65536) (by omega) (by omega) (by omega)
    obtain rfl | rfl | rfl | rfl : i = 0 ∨ i = 1 ∨ i = 2 ∨ i = 3 := by omega
    all_goals simp [Tr.all, ax, w0, w1, w2, w3, v0, v1, v2, v3, u0, u1, u2, u3]
theorem ru_ok : ∀ args t, ku_g args = some t → ∀ r, t.val = some r → ∀ w, Calls Try.prog 23 (args.map (·.2)).toArray w fun e w' => e = .returned r.2 ∧ Ext w w' := by
  intro z_args z_t z_h0 z_r z_hr z_w
  unfold ku_g at z_h0
  obtain ⟨z_a0, z_args0, rfl, z_h1⟩ := un_some z_h0
  obtain ⟨z_kn0, z_v0⟩ := z_a0
  (try dsimp only at z_h1)
  obtain ⟨z_c0, rfl, z_h2⟩ := unA_some z_h1
  obtain ⟨z_x0_0, z_r0_0, rfl, z_h3⟩ := un_some z_h2
  obtain ⟨n0, rfl, z_h4⟩ := unI_some z_h3
  obtain ⟨z_x0_1, z_r0_1, rfl, z_h5⟩ := un_some z_h4
  obtain ⟨d0, rfl, z_h6⟩ := unI_some z_h5
  obtain ⟨z_x0_2, z_r0_2, rfl, z_h7⟩ := un_some z_h6
  obtain ⟨s0, rfl, z_h8⟩ := unI_some z_h7
  obtain ⟨z_x0_3, z_r0_3, rfl, z_h9⟩ := un_some z_h8
  obtain ⟨a0, rfl, z_h10⟩ := unI_some z_h9
  obtain ⟨z_x0_4, z_r0_4, rfl, z_h11⟩ := un_some z_h10
  obtain ⟨j0, rfl, z_h12⟩ := unI_some z_h11
  obtain ⟨z_x0_5, z_r0_5, rfl, z_h13⟩ := un_some z_h12
  obtain ⟨l0, rfl, z_h14⟩ := unI_some z_h13
  obtain ⟨z_x0_6, z_r0_6, rfl, z_h15⟩ := un_some z_h14
  obtain ⟨h0, rfl, z_h16⟩ := unI_some z_h15
  obtain ⟨z_x0_7, z_r0_7, rfl, z_h17⟩ := un_some z_h16
  obtain ⟨n1, rfl, z_h18⟩ := unI_some z_h17
  obtain ⟨z_x0_8, z_r0_8, rfl, z_h19⟩ := un_some z_h18
  obtain ⟨d1, rfl, z_h20⟩ := unI_some z_h19
  obtain ⟨z_x0_9, z_r0_9, rfl, z_h21⟩ := un_some z_h20
  obtain ⟨s1, rfl, z_h22⟩ := unI_some z_h21
  obtain ⟨z_x0_10, z_r0_10, rfl, z_h23⟩ := un_some z_h22
  obtain ⟨a1, rfl, z_h24⟩ := unI_some z_h23
  obtain ⟨z_x0_11, z_r0_11, rfl, z_h25⟩ := un_some z_h24
  obtain ⟨j1, rfl, z_h26⟩ := unI_some z_h25
  obtain ⟨z_x0_12, z_r0_12, rfl, z_h27⟩ := un_some z_h26
  obtain ⟨l1, rfl, z_h28⟩ := unI_some z_h27
  obtain ⟨z_x0_13, z_r0_13, rfl, z_h29⟩ := un_some z_h28
  obtain ⟨h1, rfl, z_h30⟩ := unI_some z_h29
  obtain ⟨z_x0_14, z_r0_14, rfl, z_h31⟩ := un_some z_h30
  obtain ⟨n2, rfl, z_h32⟩ := unI_some z_h31
  obtain ⟨z_x0_15, z_r0_15, rfl, z_h33⟩ := un_some z_h32
  obtain ⟨d2, rfl, z_h34⟩ := unI_some z_h33
  obtain ⟨z_x0_16, z_r0_16, rfl, z_h35⟩ := un_some z_h34
  obtain ⟨s2, rfl, z_h36⟩ := unI_some z_h35
  obtain ⟨z_x0_17, z_r0_17, rfl, z_h37⟩ := un_some z_h36
  obtain ⟨a2, rfl, z_h38⟩ := unI_some z_h37
  obtain ⟨z_x0_18, z_r0_18, rfl, z_h39⟩ := un_some z_h38
  obtain ⟨j2, rfl, z_h40⟩ := unI_some z_h39
  obtain ⟨z_x0_19, z_r0_19, rfl, z_h41⟩ := un_some z_h40
  obtain ⟨l2, rfl, z_h42⟩ := unI_some z_h41
  obtain ⟨z_x0_20, z_r0_20, rfl, z_h43⟩ := un_some z_h42
  obtain ⟨h2, rfl, z_h44⟩ := unI_some z_h43
  obtain ⟨z_x0_21, z_r0_21, rfl, z_h45⟩ := un_some z_h44
  obtain ⟨n3, rfl, z_h46⟩ := unI_some z_h45
  obtain ⟨z_x0_22, z_r0_22, rfl, z_h47⟩ := un_some z_h46
  obtain ⟨d3, rfl, z_h48⟩ := unI_some z_h47
  obtain ⟨z_x0_23, z_r0_23, rfl, z_h49⟩ := un_some z_h48
  obtain ⟨s3, rfl, z_h50⟩ := unI_some z_h49
  obtain ⟨z_x0_24, z_r0_24, rfl, z_h51⟩ := un_some z_h50
  obtain ⟨a3, rfl, z_h52⟩ := unI_some z_h51
  obtain ⟨z_x0_25, z_r0_25, rfl, z_h53⟩ := un_some z_h52
  obtain ⟨j3, rfl, z_h54⟩ := unI_some z_h53
  obtain ⟨z_x0_26, z_r0_26, rfl, z_h55⟩ := un_some z_h54
  obtain ⟨l3, rfl, z_h56⟩ := unI_some z_h55
  obtain ⟨z_x0_27, z_r0_27, rfl, z_h57⟩ := un_some z_h56
  obtain ⟨h3, rfl, z_h58⟩ := unI_some z_h57
  obtain ⟨z_x0_28, z_r0_28, rfl, z_h59⟩ := un_some z_h58
  obtain ⟨xy, rfl, z_h60⟩ := unB_some z_h59
  obtain ⟨z_x0_29, z_r0_29, rfl, z_h61⟩ := un_some z_h60
  obtain ⟨tk, rfl, z_h62⟩ := unI_some z_h61
  obtain ⟨rfl, z_h63⟩ := unE_some z_h62
  obtain ⟨z_a1, z_args1, rfl, z_h64⟩ := un_some z_h63
  obtain ⟨z_kn1, z_v1⟩ := z_a1
  (try dsimp only at z_h64)
  obtain ⟨i, rfl, z_h65⟩ := unI_some z_h64
  obtain ⟨z_a2, z_args2, rfl, z_h66⟩ := un_some z_h65
  obtain ⟨z_kn2, z_v2⟩ := z_a2
  (try dsimp only at z_h66)
  obtain ⟨p, rfl, z_h67⟩ := unI_some z_h66
  obtain ⟨rfl, z_h68⟩ := unE_some z_h67
  simp only [Option.some.injEq] at z_h68
  subst z_h68
  simp only [Tr.val, Option.some.injEq] at z_hr
  subst z_hr
  exact calls_of_tree (by kernel_rfl) (kiC_S5_ok) (ru_tree n0 d0 s0 a0 j0 l0 h0 n1 d1 s1 a1 j1 l1 h1 n2 d2 s2 a2 j2 l2 h2 n3 d3 s3 a3 j3 l3 h3 xy tk i p) (ru_all n0 d0 s0 a0 j0 l0 h0 n1 d1 s1 a1 j1 l1 h1 n2 d2 s2 a2 j2 l2 h2 n3 d3 s3 a3 j3 l3 h3 xy tk i p) z_w
def kiC_S6 : Sums := addS 23 ku_g kiC_S5
theorem kiC_S6_ok : SumOK Try.prog kiC_S6 := addS_ok ru_ok (kiC_S5_ok)
set_option maxRecDepth 100000 in
theorem law_KinSteps_tree (n0 d0 s0 a0 j0 l0 h0 n1 d1 s1 a1 j1 l1 h1 n2 d2 s2 a2 j2 l2 h2 n3 d3 s3 a3 j3 l3 h3 : Int) (xy : Bool) (tk i p : Int) : evalF Try.prog kiC_S6 6 4 [(false, .agg #[.int .i64 n0, .int .i64 d0, .int .i64 s0, .int .i64 a0, .int .i64 j0, .int .i64 l0, .int .i64 h0, .int .i64 n1, .int .i64 d1, .int .i64 s1, .int .i64 a1, .int .i64 j1, .int .i64 l1, .int .i64 h1, .int .i64 n2, .int .i64 d2, .int .i64 s2, .int .i64 a2, .int .i64 j2, .int .i64 l2, .int .i64 h2, .int .i64 n3, .int .i64 d3, .int .i64 s3, .int .i64 a3, .int .i64 j3, .int .i64 l3, .int .i64 h3, .bool xy, .int .i64 tk]), (false, .int .i64 i), (false, .int .i64 p)] = .ret (false, .bool (bif bif bif bif Prod.fst (kst n0 d0 s0 a0 j0 l0 h0 n1 d1 s1 a1 j1 l1 h1 n2 d2 s2 a2 j2 l2 h2 n3 d3 s3 a3 j3 l3 h3 xy tk i p) == Prod.fst (kst n0 d0 s0 a0 j0 l0 h0 n1 d1 s1 a1 j1 l1 h1 n2 d2 s2 a2 j2 l2 h2 n3 d3 s3 a3 j3 l3 h3 xy tk i p) then Prod.snd (kst n0 d0 s0 a0 j0 l0 h0 n1 d1 s1 a1 j1 l1 h1 n2 d2 s2 a2 j2 l2 h2 n3 d3 s3 a3 j3 l3 h3 xy tk i p) == Prod.snd (kst n0 d0 s0 a0 j0 l0 h0 n1 d1 s1 a1 j1 l1 h1 n2 d2 s2 a2 j2 l2 h2 n3 d3 s3 a3 j3 l3 h3 xy tk i p) else false then Prod.fst (kun n0 d0 s0 a0 j0 l0 h0 n1 d1 s1 a1 j1 l1 h1 n2 d2 s2 a2 j2 l2 h2 n3 d3 s3 a3 j3 l3 h3 xy tk i p) == Prod.fst (kun n0 d0 s0 a0 j0 l0 h0 n1 d1 s1 a1 j1 l1 h1 n2 d2 s2 a2 j2 l2 h2 n3 d3 s3 a3 j3 l3 h3 xy tk i p) else false then Prod.snd (kun n0 d0 s0 a0 j0 l0 h0 n1 d1 s1 a1 j1 l1 h1 n2 d2 s2 a2 j2 l2 h2 n3 d3 s3 a3 j3 l3 h3 xy tk i p) == Prod.snd (kun n0 d0 s0 a0 j0 l0 h0 n1 d1 s1 a1 j1 l1 h1 n2 d2 s2 a2 j2 l2 h2 n3 d3 s3 a3 j3 l3 h3 xy tk i p) else false then true else false)) := by kernel_rfl
set_option maxHeartbeats 4000000 in
theorem law_KinSteps (n0 d0 s0 a0 j0 l0 h0 n1 d1 s1 a1 j1 l1 h1 n2 d2 s2 a2 j2 l2 h2 n3 d3 s3 a3 j3 l3 h3 : Int) (xy : Bool) (tk i p : Int) (z_w : World) : Calls Try.prog 4 #[.agg #[.int .i64 n0, .int .i64 d0, .int .i64 s0, .int .i64 a0, .int .i64 j0, .int .i64 l0, .int .i64 h0, .int .i64 n1, .int .i64 d1, .int .i64 s1, .int .i64 a1, .int .i64 j1, .int .i64 l1, .int .i64 h1, .int .i64 n2, .int .i64 d2, .int .i64 s2, .int .i64 a2, .int .i64 j2, .int .i64 l2, .int .i64 h2, .int .i64 n3, .int .i64 d3, .int .i64 s3, .int .i64 a3, .int .i64 j3, .int .i64 l3, .int .i64 h3, .bool xy, .int .i64 tk], .int .i64 i, .int .i64 p] z_w fun e w' => e = .returned (.bool true) ∧ Ext z_w w' := by
  refine calls_of_tree (by kernel_rfl) (kiC_S6_ok) (law_KinSteps_tree n0 d0 s0 a0 j0 l0 h0 n1 d1 s1 a1 j1 l1 h1 n2 d2 s2 a2 j2 l2 h2 n3 d3 s3 a3 j3 l3 h3 xy tk i p) (v := .bool true) ?_ z_w
  simp [Tr.all]
end Go.Proofs.Ythgmacoljkljfaa
