/-
  Contracts of kin (Valid, Inside) and of the document; the law KinChecks.
-/
import Derived.Test.YthgmacoljkljfaaProg
import Derived.Test.YthgmacoljkljfaaEvK
namespace Go.Proofs.Ythgmacoljkljfaa
open Go
def vax0 (n d s a j l h : Int) : Bool := bif bif bif bif bif bif decide ((1 : Int) ≤ n) then decide (n ≤ (65536 : Int)) else false then bif decide ((1 : Int) ≤ d) then decide (d ≤ n) else false else false then bif bif bif decide ((1 : Int) ≤ s) then decide (s ≤ (1048576 : Int)) else false then bif decide ((1 : Int) ≤ a) then decide (a ≤ (16777216 : Int)) else false else false then bif decide ((1 : Int) ≤ j) then decide (j ≤ (1048576 : Int)) else false else false else false then decide (l ≤ h) else false then decide (l ≥ (-1048576 : Int)) else false then decide (h ≤ (1048576 : Int)) else false
set_option maxRecDepth 100000 in
theorem vax_tree (n d s a j l h : Int) : evalF Try.prog S0 6 38 [(false, .agg #[.int .i64 n, .int .i64 d, .int .i64 s, .int .i64 a, .int .i64 j, .int .i64 l, .int .i64 h])] = .ret (false, .bool (bif bif bif bif bif bif decide ((1 : Int) ≤ n) then decide (n ≤ (65536 : Int)) else false then bif decide ((1 : Int) ≤ d) then decide (d ≤ n) else false else false then bif bif bif decide ((1 : Int) ≤ s) then decide (s ≤ (1048576 : Int)) else false then bif decide ((1 : Int) ≤ a) then decide (a ≤ (16777216 : Int)) else false else false then bif decide ((1 : Int) ≤ j) then decide (j ≤ (1048576 : Int)) else false else false else false then decide (l ≤ h) else false then decide (l ≥ (-1048576 : Int)) else false then decide (h ≤ (1048576 : Int)) else false)) := by kernel_rfl
def vax_g : List (Bool × Value) → Option (Tr (Bool × Value)) := fun z_args => un z_args fun z_a0 z_args0 => unA z_a0.2 fun z_c0 => un z_c0 fun z_x0_0 z_r0_0 => unI .i64 z_x0_0 fun n => un z_r0_0 fun z_x0_1 z_r0_1 => unI .i64 z_x0_1 fun d => un z_r0_1 fun z_x0_2 z_r0_2 => unI .i64 z_x0_2 fun s => un z_r0_2 fun z_x0_3 z_r0_3 => unI .i64 z_x0_3 fun a => un z_r0_3 fun z_x0_4 z_r0_4 => unI .i64 z_x0_4 fun j => un z_r0_4 fun z_x0_5 z_r0_5 => unI .i64 z_x0_5 fun l => un z_r0_5 fun z_x0_6 z_r0_6 => unI .i64 z_x0_6 fun h => unE z_r0_6 <| unE z_args0 <| some (.ret ((z_a0.1), .bool (vax0 n d s a j l h)))
theorem vax_ok : ∀ args t, vax_g args = some t → ∀ r, t.val = some r → ∀ w, Calls Try.prog 38 (args.map (·.2)).toArray w fun e w' => e = .returned r.2 ∧ Ext w w' := by
  intro z_args z_t z_h0 z_r z_hr z_w
  unfold vax_g at z_h0
  obtain ⟨z_a0, z_args0, rfl, z_h1⟩ := un_some z_h0
  obtain ⟨z_kn0, z_v0⟩ := z_a0
  (try dsimp only at z_h1)
  obtain ⟨z_c0, rfl, z_h2⟩ := unA_some z_h1
  obtain ⟨z_x0_0, z_r0_0, rfl, z_h3⟩ := un_some z_h2
  obtain ⟨n, rfl, z_h4⟩ := unI_some z_h3
  obtain ⟨z_x0_1, z_r0_1, rfl, z_h5⟩ := un_some z_h4
  obtain ⟨d, rfl, z_h6⟩ := unI_some z_h5
  obtain ⟨z_x0_2, z_r0_2, rfl, z_h7⟩ := un_some z_h6
  obtain ⟨s, rfl, z_h8⟩ := unI_some z_h7
  obtain ⟨z_x0_3, z_r0_3, rfl, z_h9⟩ := un_some z_h8
  obtain ⟨a, rfl, z_h10⟩ := unI_some z_h9
  obtain ⟨z_x0_4, z_r0_4, rfl, z_h11⟩ := un_some z_h10
  obtain ⟨j, rfl, z_h12⟩ := unI_some z_h11
  obtain ⟨z_x0_5, z_r0_5, rfl, z_h13⟩ := un_some z_h12
  obtain ⟨l, rfl, z_h14⟩ := unI_some z_h13
  obtain ⟨z_x0_6, z_r0_6, rfl, z_h15⟩ := un_some z_h14
  obtain ⟨h, rfl, z_h16⟩ := unI_some z_h15
  obtain ⟨rfl, z_h17⟩ := unE_some z_h16
  obtain ⟨rfl, z_h18⟩ := unE_some z_h17
  simp only [Option.some.injEq] at z_h18
  subst z_h18
  simp only [Tr.val, Option.some.injEq] at z_hr
  subst z_hr
  exact calls_of_tree (by kernel_rfl) (S0_ok _) (vax_tree n d s a j l h) rfl z_w
def kiA_S1 : Sums := addS 38 vax_g S0
theorem kiA_S1_ok : SumOK Try.prog kiA_S1 := addS_ok vax_ok (S0_ok _)
def kv0 (n0 d0 s0 a0 j0 l0 h0 n1 d1 s1 a1 j1 l1 h1 n2 d2 s2 a2 j2 l2 h2 n3 d3 s3 a3 j3 l3 h3 : Int) (_xy : Bool) (tk : Int) : Bool := bif !vax0 n0 d0 s0 a0 j0 l0 h0 then false else bif !vax0 n1 d1 s1 a1 j1 l1 h1 then false else bif !vax0 n2 d2 s2 a2 j2 l2 h2 then false else bif !vax0 n3 d3 s3 a3 j3 l3 h3 then false else bif decide ((1 : Int) ≤ tk) then decide (tk ≤ (1048576 : Int)) else false
set_option maxRecDepth 100000 in
theorem kv_tree (n0 d0 s0 a0 j0 l0 h0 n1 d1 s1 a1 j1 l1 h1 n2 d2 s2 a2 j2 l2 h2 n3 d3 s3 a3 j3 l3 h3 : Int) (xy : Bool) (tk : Int) : evalF Try.prog kiA_S1 6 15 [(false, .agg #[.int .i64 n0, .int .i64 d0, .int .i64 s0, .int .i64 a0, .int .i64 j0, .int .i64 l0, .int .i64 h0, .int .i64 n1, .int .i64 d1, .int .i64 s1, .int .i64 a1, .int .i64 j1, .int .i64 l1, .int .i64 h1, .int .i64 n2, .int .i64 d2, .int .i64 s2, .int .i64 a2, .int .i64 j2, .int .i64 l2, .int .i64 h2, .int .i64 n3, .int .i64 d3, .int .i64 s3, .int .i64 a3, .int .i64 j3, .int .i64 l3, .int .i64 h3, .bool xy, .int .i64 tk])] = .ret (false, .bool (bif !vax0 n0 d0 s0 a0 j0 l0 h0 then false else bif !vax0 n1 d1 s1 a1 j1 l1 h1 then false else bif !vax0 n2 d2 s2 a2 j2 l2 h2 then false else bif !vax0 n3 d3 s3 a3 j3 l3 h3 then false else bif decide ((1 : Int) ≤ tk) then decide (tk ≤ (1048576 : Int)) else false)) := by kernel_rfl
def kv_g : List (Bool × Value) → Option (Tr (Bool × Value)) := fun z_args => un z_args fun z_a0 z_args0 => unA z_a0.2 fun z_c0 => un z_c0 fun z_x0_0 z_r0_0 => unI .i64 z_x0_0 fun n0 => un z_r0_0 fun z_x0_1 z_r0_1 => unI .i64 z_x0_1 fun d0 => un z_r0_1 fun z_x0_2 z_r0_2 => unI .i64 z_x0_2 fun s0 => un z_r0_2 fun z_x0_3 z_r0_3 => unI .i64 z_x0_3 fun a0 => un z_r0_3 fun z_x0_4 z_r0_4 => unI .i64 z_x0_4 fun j0 => un z_r0_4 fun z_x0_5 z_r0_5 => unI .i64 z_x0_5 fun l0 => un z_r0_5 fun z_x0_6 z_r0_6 => unI .i64 z_x0_6 fun h0 => un z_r0_6 fun z_x0_7 z_r0_7 => unI .i64 z_x0_7 fun n1 => un z_r0_7 fun z_x0_8 z_r0_8 => unI .i64 z_x0_8 fun d1 => un z_r0_8 fun z_x0_9 z_r0_9 => unI .i64 z_x0_9 fun s1 => un z_r0_9 fun z_x0_10 z_r0_10 => unI .i64 z_x0_10 fun a1 => un z_r0_10 fun z_x0_11 z_r0_11 => unI .i64 z_x0_11 fun j1 => un z_r0_11 fun z_x0_12 z_r0_12 => unI .i64 z_x0_12 fun l1 => un z_r0_12 fun z_x0_13 z_r0_13 => unI .i64 z_x0_13 fun h1 => un z_r0_13 fun z_x0_14 z_r0_14 => unI .i64 z_x0_14 fun n2 => un z_r0_14 fun z_x0_15 z_r0_15 => unI .i64 z_x0_15 fun d2 => un z_r0_15 fun z_x0_16 z_r0_16 => unI .i64 z_x0_16 fun s2 => un z_r0_16 fun z_x0_17 z_r0_17 => unI .i64 z_x0_17 fun a2 => un z_r0_17 fun z_x0_18 z_r0_18 => unI .i64 z_x0_18 fun j2 => un z_r0_18 fun z_x0_19 z_r0_19 => unI .i64 z_x0_19 fun l2 => un z_r0_19 fun z_x0_20 z_r0_20 => unI .i64 z_x0_20 fun h2 => un z_r0_20 fun z_x0_21 z_r0_21 => unI .i64 z_x0_21 fun n3 => un z_r0_21 fun z_x0_22 z_r0_22 => unI .i64 z_x0_22 fun d3 => un z_r0_22 fun z_x0_23 z_r0_23 => unI .i64 z_x0_23 fun s3 => un z_r0_23 fun z_x0_24 z_r0_24 => unI .i64 z_x0_24 fun a3 => un z_r0_24 fun z_x0_25 z_r0_25 => unI .i64 z_x0_25 fun j3 => un z_r0_25 fun z_x0_26 z_r0_26 => unI .i64 z_x0_26 fun l3 => un z_r0_26 fun z_x0_27 z_r0_27 => unI .i64 z_x0_27 fun h3 => un z_r0_27 fun z_x0_28 z_r0_28 => unB z_x0_28 fun xy => un z_r0_28 fun z_x0_29 z_r0_29 => unI .i64 z_x0_29 fun tk => unE z_r0_29 <| unE z_args0 <| some (.ret ((z_a0.1), .bool (kv0 n0 d0 s0 a0 j0 l0 h0 n1 d1 s1 a1 j1 l1 h1 n2 d2 s2 a2 j2 l2 h2 n3 d3 s3 a3 j3 l3 h3 xy tk)))
theorem kv_ok : ∀ args t, kv_g args = some t → ∀ r, t.val = some r → ∀ w, Calls Try.prog 15 (args.map (·.2)).toArray w fun e w' => e = .returned r.2 ∧ Ext w w' := by
  intro z_args z_t z_h0 z_r z_hr z_w
  unfold kv_g at z_h0
  obtain ⟨z_a0, z_args0, rfl, z_h1⟩ := un_some z_h0
  obtain ⟨z_kn0, z_v0⟩ := z_a0
  (try dsimp only at z_h1)
  obtain ⟨z_c0, rfl, z_h2⟩ := unA_some z_h1
  obtain ⟨z_x0_0, z_r0_0, rfl, z_h3⟩ := un_some z_h2
  obtain ⟨n0, rfl, z_h4⟩ := unI_some z_h3
  obtain ⟨z_x0_1, z_r0_1, rfl, z_h5⟩ := un_some z_h4
  obtain ⟨d0, rfl, z_h6⟩ := unI_some z_h5
  obtain ⟨z_x0_2, z_r0_2, rfl, z_h7⟩ := un_some z_h6
  obtain ⟨s0, rfl, z_h8⟩ := unI_some z_h7
  obtain ⟨z_x0_3, z_r0_3, rfl, z_h9⟩ := un_some z_h8
  obtain ⟨a0, rfl, z_h10⟩ := unI_some z_h9
  obtain ⟨z_x0_4, z_r0_4, rfl, z_h11⟩ := un_some z_h10
  obtain ⟨j0, rfl, z_h12⟩ := unI_some z_h11
  obtain ⟨z_x0_5, z_r0_5, rfl, z_h13⟩ := un_some z_h12
  obtain ⟨l0, rfl, z_h14⟩ := unI_some z_h13
  obtain ⟨z_x0_6, z_r0_6, rfl, z_h15⟩ := un_some z_h14
  obtain ⟨h0, rfl, z_h16⟩ := unI_some z_h15
  obtain ⟨z_x0_7, z_r0_7, rfl, z_h17⟩ := un_some z_h16
  obtain ⟨n1, rfl, z_h18⟩ := unI_some z_h17
  obtain ⟨z_x0_8, z_r0_8, rfl, z_h19⟩ := un_some z_h18
  obtain ⟨d1, rfl, z_h20⟩ := unI_some z_h19
  obtain ⟨z_x0_9, z_r0_9, rfl, z_h21⟩ := un_some z_h20
  obtain ⟨s1, rfl, z_h22⟩ := unI_some z_h21
  obtain ⟨z_x0_10, z_r0_10, rfl, z_h23⟩ := un_some z_h22
  obtain ⟨a1, rfl, z_h24⟩ := unI_some z_h23
  obtain ⟨z_x0_11, z_r0_11, rfl, z_h25⟩ := un_some z_h24
  obtain ⟨j1, rfl, z_h26⟩ := unI_some z_h25
  obtain ⟨z_x0_12, z_r0_12, rfl, z_h27⟩ := un_some z_h26
  obtain ⟨l1, rfl, z_h28⟩ := unI_some z_h27
  obtain ⟨z_x0_13, z_r0_13, rfl, z_h29⟩ := un_some z_h28
  obtain ⟨h1, rfl, z_h30⟩ := unI_some z_h29
  obtain ⟨z_x0_14, z_r0_14, rfl, z_h31⟩ := un_some z_h30
  obtain ⟨n2, rfl, z_h32⟩ := unI_some z_h31
  obtain ⟨z_x0_15, z_r0_15, rfl, z_h33⟩ := un_some z_h32
  obtain ⟨d2, rfl, z_h34⟩ := unI_some z_h33
  obtain ⟨z_x0_16, z_r0_16, rfl, z_h35⟩ := un_some z_h34
  obtain ⟨s2, rfl, z_h36⟩ := unI_some z_h35
  obtain ⟨z_x0_17, z_r0_17, rfl, z_h37⟩ := un_some z_h36
  obtain ⟨a2, rfl, z_h38⟩ := unI_some z_h37
  obtain ⟨z_x0_18, z_r0_18, rfl, z_h39⟩ := un_some z_h38
  obtain ⟨j2, rfl, z_h40⟩ := unI_some z_h39
  obtain ⟨z_x0_19, z_r0_19, rfl, z_h41⟩ := un_some z_h40
  obtain ⟨l2, rfl, z_h42⟩ := unI_some z_h41
  obtain ⟨z_x0_20, z_r0_20, rfl, z_h43⟩ := un_some z_h42
  obtain ⟨h2, rfl, z_h44⟩ := unI_some z_h43
  obtain ⟨z_x0_21, z_r0_21, rfl, z_h45⟩ := un_some z_h44
  obtain ⟨n3, rfl, z_h46⟩ := unI_some z_h45
  obtain ⟨z_x0_22, z_r0_22, rfl, z_h47⟩ := un_some z_h46
  obtain ⟨d3, rfl, z_h48⟩ := unI_some z_h47
  obtain ⟨z_x0_23, z_r0_23, rfl, z_h49⟩ := un_some z_h48
  obtain ⟨s3, rfl, z_h50⟩ := unI_some z_h49
  obtain ⟨z_x0_24, z_r0_24, rfl, z_h51⟩ := un_some z_h50
  obtain ⟨a3, rfl, z_h52⟩ := unI_some z_h51
  obtain ⟨z_x0_25, z_r0_25, rfl, z_h53⟩ := un_some z_h52
  obtain ⟨j3, rfl, z_h54⟩ := unI_some z_h53
  obtain ⟨z_x0_26, z_r0_26, rfl, z_h55⟩ := un_some z_h54
  obtain ⟨l3, rfl, z_h56⟩ := unI_some z_h55
  obtain ⟨z_x0_27, z_r0_27, rfl, z_h57⟩ := un_some z_h56
  obtain ⟨h3, rfl, z_h58⟩ := unI_some z_h57
  obtain ⟨z_x0_28, z_r0_28, rfl, z_h59⟩ := un_some z_h58
  obtain ⟨xy, rfl, z_h60⟩ := unB_some z_h59
  obtain ⟨z_x0_29, z_r0_29, rfl, z_h61⟩ := un_some z_h60
  obtain ⟨tk, rfl, z_h62⟩ := unI_some z_h61
  obtain ⟨rfl, z_h63⟩ := unE_some z_h62
  obtain ⟨rfl, z_h64⟩ := unE_some z_h63
  simp only [Option.some.injEq] at z_h64
  subst z_h64
  simp only [Tr.val, Option.some.injEq] at z_hr
  subst z_hr
  exact calls_of_tree (by kernel_rfl) (kiA_S1_ok) (kv_tree n0 d0 s0 a0 j0 l0 h0 n1 d1 s1 a1 j1 l1 h1 n2 d2 s2 a2 j2 l2 h2 n3 d3 s3 a3 j3 l3 h3 xy tk) rfl z_w
def kiA_S2 : Sums := addS 15 kv_g kiA_S1
theorem kiA_S2_ok : SumOK Try.prog kiA_S2 := addS_ok kv_ok (kiA_S1_ok)
set_option maxRecDepth 100000 in
theorem rv_tree (n0 d0 s0 a0 j0 l0 h0 n1 d1 s1 a1 j1 l1 h1 n2 d2 s2 a2 j2 l2 h2 n3 d3 s3 a3 j3 l3 h3 : Int) (xy : Bool) (tk : Int) : evalF Try.prog kiA_S2 6 16 [(false, .agg #[.int .i64 n0, .int .i64 d0, .int .i64 s0, .int .i64 a0, .int .i64 j0, .int .i64 l0, .int .i64 h0, .int .i64 n1, .int .i64 d1, .int .i64 s1, .int .i64 a1, .int .i64 j1, .int .i64 l1, .int .i64 h1, .int .i64 n2, .int .i64 d2, .int .i64 s2, .int .i64 a2, .int .i64 j2, .int .i64 l2, .int .i64 h2, .int .i64 n3, .int .i64 d3, .int .i64 s3, .int .i64 a3, .int .i64 j3, .int .i64 l3, .int .i64 h3, .bool xy, .int .i64 tk])] = .ret (false, .bool (bif bif bif bif bif bif bif bif bif bif decide (n0 < (1 : Int)) then true else decide (n0 > (65536 : Int)) then true else decide (d0 < (1 : Int)) then true else decide (d0 > n0) then true else decide (s0 < (1 : Int)) then true else decide (s0 > (1048576 : Int)) then true else decide (a0 < (1 : Int)) then true else decide (a0 > (16777216 : Int)) then true else decide (j0 < (1 : Int)) then true else decide (j0 > (1048576 : Int)) then false else bif bif bif decide (l0 > h0) then true else decide (l0 < (-1048576 : Int)) then true else decide (h0 > (1048576 : Int)) then false else bif bif bif bif bif bif bif bif bif bif decide (n1 < (1 : Int)) then true else decide (n1 > (65536 : Int)) then true else decide (d1 < (1 : Int)) then true else decide (d1 > n1) then true else decide (s1 < (1 : Int)) then true else decide (s1 > (1048576 : Int)) then true else decide (a1 < (1 : Int)) then true else decide (a1 > (16777216 : Int)) then true else decide (j1 < (1 : Int)) then true else decide (j1 > (1048576 : Int)) then false else bif bif bif decide (l1 > h1) then true else decide (l1 < (-1048576 : Int)) then true else decide (h1 > (1048576 : Int)) then false else bif bif bif bif bif bif bif bif bif bif decide (n2 < (1 : Int)) then true else decide (n2 > (65536 : Int)) then true else decide (d2 < (1 : Int)) then true else decide (d2 > n2) then true else decide (s2 < (1 : Int)) then true else decide (s2 > (1048576 : Int)) then true else decide (a2 < (1 : Int)) then true else decide (a2 > (16777216 : Int)) then true else decide (j2 < (1 : Int)) then true else decide (j2 > (1048576 : Int)) then false else bif bif bif decide (l2 > h2) then true else decide (l2 < (-1048576 : Int)) then true else decide (h2 > (1048576 : Int)) then false else bif bif bif bif bif bif bif bif bif bif decide (n3 < (1 : Int)) then true else decide (n3 > (65536 : Int)) then true else decide (d3 < (1 : Int)) then true else decide (d3 > n3) then true else decide (s3 < (1 : Int)) then true else decide (s3 > (1048576 : Int)) then true else decide (a3 < (1 : Int)) then true else decide (a3 > (16777216 : Int)) then true else decide (j3 < (1 : Int)) then true else decide (j3 > (1048576 : Int)) then false else bif bif bif decide (l3 > h3) then true else decide (l3 < (-1048576 : Int)) then true else decide (h3 > (1048576 : Int)) then false else bif decide (tk ≥ (1 : Int)) then decide (tk ≤ (1048576 : Int)) else false)) := by kernel_rfl
set_option maxHeartbeats 4000000 in
theorem rv_eq (n0 d0 s0 a0 j0 l0 h0 n1 d1 s1 a1 j1 l1 h1 n2 d2 s2 a2 j2 l2 h2 n3 d3 s3 a3 j3 l3 h3 : Int) (xy : Bool) (tk : Int) : (bif bif bif bif bif bif bif bif bif bif decide (n0 < (1 : Int)) then true else decide (n0 > (65536 : Int)) then true else decide (d0 < (1 : Int)) then true else decide (d0 > n0) then true else decide (s0 < (1 : Int)) then true else decide (s0 > (1048576 : Int)) then true else decide (a0 < (1 : Int)) then true else decide (a0 > (16777216 : Int)) then true else decide (j0 < (1 : Int)) then true else decide (j0 > (1048576 : Int)) then false else bif bif bif decide (l0 > h0) then true else decide (l0 < (-1048576 : Int)) then true else decide (h0 > (1048576 : Int)) then false else bif bif bif bif bif bif bif bif bif bif decide (n1 < (1 : Int)) then true else decide (n1 > (65536 : Int)) then true else decide (d1 < (1 : Int)) then true else decide (d1 > n1) then true else decide (s1 < (1 : Int)) then true else decide (s1 > (1048576 : Int)) then true else decide (a1 < (1 : Int)) then true else decide (a1 > (16777216 : Int)) then true else decide (j1 < (1 : Int)) then true else decide (j1 > (1048576 : Int)) then false else bif bif bif decide (l1 > h1) then true else decide (l1 < (-1048576 : Int)) then true else decide (h1 > (1048576 : Int)) then false else bif bif bif bif bif bif bif bif bif bif decide (n2 < (1 : Int)) then true else decide (n2 > (65536 : Int)) then true else decide (d2 < (1 : Int)) then true else decide (d2 > n2) then true else decide (s2 < (1 : Int)) then true else decide (s2 > (1048576 : Int)) then true else decide (a2 < (1 : Int)) then true else decide (a2 > (16777216 : Int)) then true else decide (j2 < (1 : Int)) then true else decide (j2 > (1048576 : Int)) then false else bif bif bif decide (l2 > h2) then true else decide (l2 < (-1048576 : Int)) then true else decide (h2 > (1048576 : Int)) then false else bif bif bif bif bif bif bif bif bif bif decide (n3 < (1 : Int)) then true else decide (n3 > (65536 : Int)) then true else decide (d3 < (1 : Int)) then true else decide (d3 > n3) then true else decide (s3 < (1 : Int)) then true else decide (s3 > (1048576 : Int)) then true else decide (a3 < (1 : Int)) then true else decide (a3 > (16777216 : Int)) then true else decide (j3 < (1 : Int)) then true else decide (j3 > (1048576 : Int)) then false else bif bif bif decide (l3 > h3) then true else decide (l3 < (-1048576 : Int)) then true else decide (h3 > (1048576 : Int)) then false else bif decide (tk ≥ (1 : Int)) then decide (tk ≤ (1048576 : Int)) else false) = kv0 n0 d0 s0 a0 j0 l0 h0 n1 d1 s1 a1 j1 l1 h1 n2 d2 s2 a2 j2 l2 h2 n3 d3 s3 a3 j3 l3 h3 xy tk := by
  rw [Bool.eq_iff_iff]
  simp only [kv0, vax0, Bool.cond_eq_ite]
  constructor
  · intro h
    simp at h ⊢
    omega
  · intro h
    simp at h ⊢
    omega
theorem rv_ok : ∀ args t, kv_g args = some t → ∀ r, t.val = some r → ∀ w, Calls Try.prog 16 (args.map (·.2)).toArray w fun e w' => e = .returned r.2 ∧ Ext w w' := by
  intro z_args z_t z_h0 z_r z_hr z_w
  unfold kv_g at z_h0
  obtain ⟨z_a0, z_args0, rfl, z_h1⟩ := un_some z_h0
  obtain ⟨z_kn0, z_v0⟩ := z_a0
  (try dsimp only at z_h1)
  obtain ⟨z_c0, rfl, z_h2⟩ := unA_some z_h1
  obtain ⟨z_x0_0, z_r0_0, rfl, z_h3⟩ := un_some z_h2
  obtain ⟨n0, rfl, z_h4⟩ := unI_some z_h3
  obtain ⟨z_x0_1, z_r0_1, rfl, z_h5⟩ := un_some z_h4
  obtain ⟨d0, rfl, z_h6⟩ := unI_some z_h5
  obtain ⟨z_x0_2, z_r0_2, rfl, z_h7⟩ := un_some z_h6
  obtain ⟨s0, rfl, z_h8⟩ := unI_some z_h7
  obtain ⟨z_x0_3, z_r0_3, rfl, z_h9⟩ := un_some z_h8
  obtain ⟨a0, rfl, z_h10⟩ := unI_some z_h9
  obtain ⟨z_x0_4, z_r0_4, rfl, z_h11⟩ := un_some z_h10
  obtain ⟨j0, rfl, z_h12⟩ := unI_some z_h11
  obtain ⟨z_x0_5, z_r0_5, rfl, z_h13⟩ := un_some z_h12
  obtain ⟨l0, rfl, z_h14⟩ := unI_some z_h13
  obtain ⟨z_x0_6, z_r0_6, rfl, z_h15⟩ := un_some z_h14
  obtain ⟨h0, rfl, z_h16⟩ := unI_some z_h15
  obtain ⟨z_x0_7, z_r0_7, rfl, z_h17⟩ := un_some z_h16
  obtain ⟨n1, rfl, z_h18⟩ := unI_some z_h17
  obtain ⟨z_x0_8, z_r0_8, rfl, z_h19⟩ := un_some z_h18
  obtain ⟨d1, rfl, z_h20⟩ := unI_some z_h19
  obtain ⟨z_x0_9, z_r0_9, rfl, z_h21⟩ := un_some z_h20
  obtain ⟨s1, rfl, z_h22⟩ := unI_some z_h21
  obtain ⟨z_x0_10, z_r0_10, rfl, z_h23⟩ := un_some z_h22
  obtain ⟨a1, rfl, z_h24⟩ := unI_some z_h23
  obtain ⟨z_x0_11, z_r0_11, rfl, z_h25⟩ := un_some z_h24
  obtain ⟨j1, rfl, z_h26⟩ := unI_some z_h25
  obtain ⟨z_x0_12, z_r0_12, rfl, z_h27⟩ := un_some z_h26
  obtain ⟨l1, rfl, z_h28⟩ := unI_some z_h27
  obtain ⟨z_x0_13, z_r0_13, rfl, z_h29⟩ := un_some z_h28
  obtain ⟨h1, rfl, z_h30⟩ := unI_some z_h29
  obtain ⟨z_x0_14, z_r0_14, rfl, z_h31⟩ := un_some z_h30
  obtain ⟨n2, rfl, z_h32⟩ := unI_some z_h31
  obtain ⟨z_x0_15, z_r0_15, rfl, z_h33⟩ := un_some z_h32
  obtain ⟨d2, rfl, z_h34⟩ := unI_some z_h33
  obtain ⟨z_x0_16, z_r0_16, rfl, z_h35⟩ := un_some z_h34
  obtain ⟨s2, rfl, z_h36⟩ := unI_some z_h35
  obtain ⟨z_x0_17, z_r0_17, rfl, z_h37⟩ := un_some z_h36
  obtain ⟨a2, rfl, z_h38⟩ := unI_some z_h37
  obtain ⟨z_x0_18, z_r0_18, rfl, z_h39⟩ := un_some z_h38
  obtain ⟨j2, rfl, z_h40⟩ := unI_some z_h39
  obtain ⟨z_x0_19, z_r0_19, rfl, z_h41⟩ := un_some z_h40
  obtain ⟨l2, rfl, z_h42⟩ := unI_some z_h41
  obtain ⟨z_x0_20, z_r0_20, rfl, z_h43⟩ := un_some z_h42
  obtain ⟨h2, rfl, z_h44⟩ := unI_some z_h43
  obtain ⟨z_x0_21, z_r0_21, rfl, z_h45⟩ := un_some z_h44
  obtain ⟨n3, rfl, z_h46⟩ := unI_some z_h45
  obtain ⟨z_x0_22, z_r0_22, rfl, z_h47⟩ := un_some z_h46
  obtain ⟨d3, rfl, z_h48⟩ := unI_some z_h47
  obtain ⟨z_x0_23, z_r0_23, rfl, z_h49⟩ := un_some z_h48
  obtain ⟨s3, rfl, z_h50⟩ := unI_some z_h49
  obtain ⟨z_x0_24, z_r0_24, rfl, z_h51⟩ := un_some z_h50
  obtain ⟨a3, rfl, z_h52⟩ := unI_some z_h51
  obtain ⟨z_x0_25, z_r0_25, rfl, z_h53⟩ := un_some z_h52
  obtain ⟨j3, rfl, z_h54⟩ := unI_some z_h53
  obtain ⟨z_x0_26, z_r0_26, rfl, z_h55⟩ := un_some z_h54
  obtain ⟨l3, rfl, z_h56⟩ := unI_some z_h55
  obtain ⟨z_x0_27, z_r0_27, rfl, z_h57⟩ := un_some z_h56
  obtain ⟨h3, rfl, z_h58⟩ := unI_some z_h57
  obtain ⟨z_x0_28, z_r0_28, rfl, z_h59⟩ := un_some z_h58
  obtain ⟨xy, rfl, z_h60⟩ := unB_some z_h59
  obtain ⟨z_x0_29, z_r0_29, rfl, z_h61⟩ := un_some z_h60
  obtain ⟨tk, rfl, z_h62⟩ := unI_some z_h61
  obtain ⟨rfl, z_h63⟩ := unE_some z_h62
  obtain ⟨rfl, z_h64⟩ := unE_some z_h63
  simp only [Option.some.injEq] at z_h64
  subst z_h64
  simp only [Tr.val, Option.some.injEq] at z_hr
  subst z_hr
  exact calls_of_tree (by kernel_rfl) (kiA_S2_ok) (rv_tree n0 d0 s0 a0 j0 l0 h0 n1 d1 s1 a1 j1 l1 h1 n2 d2 s2 a2 j2 l2 h2 n3 d3 s3 a3 j3 l3 h3 xy tk) (by simp only [Tr.all]; rw [rv_eq]) z_w
def kiA_S3 : Sums := addS 16 kv_g kiA_S2
theorem kiA_S3_ok : SumOK Try.prog kiA_S3 := addS_ok rv_ok (kiA_S2_ok)
def ki0 (n0 d0 s0 a0 j0 l0 h0 n1 d1 s1 a1 j1 l1 h1 n2 d2 s2 a2 j2 l2 h2 n3 d3 s3 a3 j3 l3 h3 : Int) (xy : Bool) (tk x y z : Int) : Bool := bif !kv0 n0 d0 s0 a0 j0 l0 h0 n1 d1 s1 a1 j1 l1 h1 n2 d2 s2 a2 j2 l2 h2 n3 d3 s3 a3 j3 l3 h3 xy tk then false else bif !bif decide (l0 ≤ x) then decide (x ≤ h0) else false then false else bif !bif decide (l1 ≤ y) then decide (y ≤ h1) else false then false else bif !bif decide (l2 ≤ z) then decide (z ≤ h2) else false then false else true
set_option maxRecDepth 100000 in
theorem ki_tree (n0 d0 s0 a0 j0 l0 h0 n1 d1 s1 a1 j1 l1 h1 n2 d2 s2 a2 j2 l2 h2 n3 d3 s3 a3 j3 l3 h3 : Int) (xy : Bool) (tk x y z : Int) : evalF Try.prog kiA_S3 6 17 [(false, .agg #[.int .i64 n0, .int .i64 d0, .int .i64 s0, .int .i64 a0, .int .i64 j0, .int .i64 l0, .int .i64 h0, .int .i64 n1, .int .i64 d1, .int .i64 s1, .int .i64 a1, .int .i64 j1, .int .i64 l1, .int .i64 h1, .int .i64 n2, .int .i64 d2, .int .i64 s2, .int .i64 a2, .int .i64 j2, .int .i64 l2, .int .i64 h2, .int .i64 n3, .int .i64 d3, .int .i64 s3, .int .i64 a3, .int .i64 j3, .int .i64 l3, .int .i64 h3, .bool xy, .int .i64 tk]), (false, .agg #[.int .i64 x, .int .i64 y, .int .i64 z])] = .ret (false, .bool (bif !kv0 n0 d0 s0 a0 j0 l0 h0 n1 d1 s1 a1 j1 l1 h1 n2 d2 s2 a2 j2 l2 h2 n3 d3 s3 a3 j3 l3 h3 xy tk then false else bif !bif decide (l0 ≤ x) then decide (x ≤ h0) else false then false else bif !bif decide (l1 ≤ y) then decide (y ≤ h1) else false then false else bif !bif decide (l2 ≤ z) then decide (z ≤ h2) else false then false else true)) := by kernel_rfl
def ki_g : List (Bool × Value) → Option (Tr (Bool × Value)) := fun z_args => un z_args fun z_a0 z_args0 => unA z_a0.2 fun z_c0 => un z_c0 fun z_x0_0 z_r0_0 => unI .i64 z_x0_0 fun n0 => un z_r0_0 fun z_x0_1 z_r0_1 => unI .i64 z_x0_1 fun d0 => un z_r0_1 fun z_x0_2 z_r0_2 => unI .i64 z_x0_2 fun s0 => un z_r0_2 fun z_x0_3 z_r0_3 => unI .i64 z_x0_3 fun a0 => un z_r0_3 fun z_x0_4 z_r0_4 => unI .i64 z_x0_4 fun j0 => un z_r0_4 fun z_x0_5 z_r0_5 => unI .i64 z_x0_5 fun l0 => un z_r0_5 fun z_x0_6 z_r0_6 => unI .i64 z_x0_6 fun h0 => un z_r0_6 fun z_x0_7 z_r0_7 => unI .i64 z_x0_7 fun n1 => un z_r0_7 fun z_x0_8 z_r0_8 => unI .i64 z_x0_8 fun d1 => un z_r0_8 fun z_x0_9 z_r0_9 => unI .i64 z_x0_9 fun s1 => un z_r0_9 fun z_x0_10 z_r0_10 => unI .i64 z_x0_10 fun a1 => un z_r0_10 fun z_x0_11 z_r0_11 => unI .i64 z_x0_11 fun j1 => un z_r0_11 fun z_x0_12 z_r0_12 => unI .i64 z_x0_12 fun l1 => un z_r0_12 fun z_x0_13 z_r0_13 => unI .i64 z_x0_13 fun h1 => un z_r0_13 fun z_x0_14 z_r0_14 => unI .i64 z_x0_14 fun n2 => un z_r0_14 fun z_x0_15 z_r0_15 => unI .i64 z_x0_15 fun d2 => un z_r0_15 fun z_x0_16 z_r0_16 => unI .i64 z_x0_16 fun s2 => un z_r0_16 fun z_x0_17 z_r0_17 => unI .i64 z_x0_17 fun a2 => un z_r0_17 fun z_x0_18 z_r0_18 => unI .i64 z_x0_18 fun j2 => un z_r0_18 fun z_x0_19 z_r0_19 => unI .i64 z_x0_19 fun l2 => un z_r0_19 fun z_x0_20 z_r0_20 => unI .i64 z_x0_20 fun h2 => un z_r0_20 fun z_x0_21 z_r0_21 => unI .i64 z_x0_21 fun n3 => un z_r0_21 fun z_x0_22 z_r0_22 => unI .i64 z_x0_22 fun d3 => un z_r0_22 fun z_x0_23 z_r0_23 => unI .i64 z_x0_23 fun s3 => un z_r0_23 fun z_x0_24 z_r0_24 => unI .i64 z_x0_24 fun a3 => un z_r0_24 fun z_x0_25 z_r0_25 => unI .i64 z_x0_25 fun j3 => un z_r0_25 fun z_x0_26 z_r0_26 => unI .i64 z_x0_26 fun l3 => un z_r0_26 fun z_x0_27 z_r0_27 => unI .i64 z_x0_27 fun h3 => un z_r0_27 fun z_x0_28 z_r0_28 => unB z_x0_28 fun xy => un z_r0_28 fun z_x0_29 z_r0_29 => unI .i64 z_x0_29 fun tk => unE z_r0_29 <| un z_args0 fun z_a1 z_args1 => unA z_a1.2 fun z_c1 => un z_c1 fun z_x1_0 z_r1_0 => unI .i64 z_x1_0 fun x => un z_r1_0 fun z_x1_1 z_r1_1 => unI .i64 z_x1_1 fun y => un z_r1_1 fun z_x1_2 z_r1_2 => unI .i64 z_x1_2 fun z => unE z_r1_2 <| unE z_args1 <| some (.ret ((z_a0.1 && z_a1.1), .bool (ki0 n0 d0 s0 a0 j0 l0 h0 n1 d1 s1 a1 j1 l1 h1 n2 d2 s2 a2 j2 l2 h2 n3 d3 s3 a3 j3 l3 h3 xy tk x y z)))
theorem ki_ok : ∀ args t, ki_g args = some t → ∀ r, t.val = some r → ∀ w, Calls Try.prog 17 (args.map (·.2)).toArray w fun e w' => e = .returned r.2 ∧ Ext w w' := by
  intro z_args z_t z_h0 z_r z_hr z_w
  unfold ki_g at z_h0
  obtain ⟨z_a0, z_args0, rfl, z_h1⟩ := un_some z_h0
  obtain ⟨z_kn0, z_v0⟩ := z_a0
  (try dsimp only at z_h1)
  obtain ⟨z_c0, rfl, z_h2⟩ := unA_some z_h1
  obtain ⟨z_x0_0, z_r0_0, rfl, z_h3⟩ := un_some z_h2
  obtain ⟨n0, rfl, z_h4⟩ := unI_some z_h3
  obtain ⟨z_x0_1, z_r0_1, rfl, z_h5⟩ := un_some z_h4
  obtain ⟨d0, rfl, z_h6⟩ := unI_some z_h5
  obtain ⟨z_x0_2, z_r0_2, rfl, z_h7⟩ := un_some z_h6
  obtain ⟨s0, rfl, z_h8⟩ := unI_some z_h7
  obtain ⟨z_x0_3, z_r0_3, rfl, z_h9⟩ := un_some z_h8
  obtain ⟨a0, rfl, z_h10⟩ := unI_some z_h9
  obtain ⟨z_x0_4, z_r0_4, rfl, z_h11⟩ := un_some z_h10
  obtain ⟨j0, rfl, z_h12⟩ := unI_some z_h11
  obtain ⟨z_x0_5, z_r0_5, rfl, z_h13⟩ := un_some z_h12
  obtain ⟨l0, rfl, z_h14⟩ := unI_some z_h13
  obtain ⟨z_x0_6, z_r0_6, rfl, z_h15⟩ := un_some z_h14
  obtain ⟨h0, rfl, z_h16⟩ := unI_some z_h15
  obtain ⟨z_x0_7, z_r0_7, rfl, z_h17⟩ := un_some z_h16
  obtain ⟨n1, rfl, z_h18⟩ := unI_some z_h17
  obtain ⟨z_x0_8, z_r0_8, rfl, z_h19⟩ := un_some z_h18
  obtain ⟨d1, rfl, z_h20⟩ := unI_some z_h19
  obtain ⟨z_x0_9, z_r0_9, rfl, z_h21⟩ := un_some z_h20
  obtain ⟨s1, rfl, z_h22⟩ := unI_some z_h21
  obtain ⟨z_x0_10, z_r0_10, rfl, z_h23⟩ := un_some z_h22
  obtain ⟨a1, rfl, z_h24⟩ := unI_some z_h23
  obtain ⟨z_x0_11, z_r0_11, rfl, z_h25⟩ := un_some z_h24
  obtain ⟨j1, rfl, z_h26⟩ := unI_some z_h25
  obtain ⟨z_x0_12, z_r0_12, rfl, z_h27⟩ := un_some z_h26
  obtain ⟨l1, rfl, z_h28⟩ := unI_some z_h27
  obtain ⟨z_x0_13, z_r0_13, rfl, z_h29⟩ := un_some z_h28
  obtain ⟨h1, rfl, z_h30⟩ := unI_some z_h29
  obtain ⟨z_x0_14, z_r0_14, rfl, z_h31⟩ := un_some z_h30
  obtain ⟨n2, rfl, z_h32⟩ := unI_some z_h31
  obtain ⟨z_x0_15, z_r0_15, rfl, z_h33⟩ := un_some z_h32
  obtain ⟨d2, rfl, z_h34⟩ := unI_some z_h33
  obtain ⟨z_x0_16, z_r0_16, rfl, z_h35⟩ := un_some z_h34
  obtain ⟨s2, rfl, z_h36⟩ := unI_some z_h35
  obtain ⟨z_x0_17, z_r0_17, rfl, z_h37⟩ := un_some z_h36
  obtain ⟨a2, rfl, z_h38⟩ := unI_some z_h37
  obtain ⟨z_x0_18, z_r0_18, rfl, z_h39⟩ := un_some z_h38
  obtain ⟨j2, rfl, z_h40⟩ := unI_some z_h39
  obtain ⟨z_x0_19, z_r0_19, rfl, z_h41⟩ := un_some z_h40
  obtain ⟨l2, rfl, z_h42⟩ := unI_some z_h41
  obtain ⟨z_x0_20, z_r0_20, rfl, z_h43⟩ := un_some z_h42
  obtain ⟨h2, rfl, z_h44⟩ := unI_some z_h43
  obtain ⟨z_x0_21, z_r0_21, rfl, z_h45⟩ := un_some z_h44
  obtain ⟨n3, rfl, z_h46⟩ := unI_some z_h45
  obtain ⟨z_x0_22, z_r0_22, rfl, z_h47⟩ := un_some z_h46
  obtain ⟨d3, rfl, z_h48⟩ := unI_some z_h47
  obtain ⟨z_x0_23, z_r0_23, rfl, z_h49⟩ := un_some z_h48
  obtain ⟨s3, rfl, z_h50⟩ := unI_some z_h49
  obtain ⟨z_x0_24, z_r0_24, rfl, z_h51⟩ := un_some z_h50
  obtain ⟨a3, rfl, z_h52⟩ := unI_some z_h51
  obtain ⟨z_x0_25, z_r0_25, rfl, z_h53⟩ := un_some z_h52
  obtain ⟨j3, rfl, z_h54⟩ := unI_some z_h53
  obtain ⟨z_x0_26, z_r0_26, rfl, z_h55⟩ := un_some z_h54
  obtain ⟨l3, rfl, z_h56⟩ := unI_some z_h55
  obtain ⟨z_x0_27, z_r0_27, rfl, z_h57⟩ := un_some z_h56
  obtain ⟨h3, rfl, z_h58⟩ := unI_some z_h57
  obtain ⟨z_x0_28, z_r0_28, rfl, z_h59⟩ := un_some z_h58
  obtain ⟨xy, rfl, z_h60⟩ := unB_some z_h59
  obtain ⟨z_x0_29, z_r0_29, rfl, z_h61⟩ := un_some z_h60
  obtain ⟨tk, rfl, z_h62⟩ := unI_some z_h61
  obtain ⟨rfl, z_h63⟩ := unE_some z_h62
  obtain ⟨z_a1, z_args1, rfl, z_h64⟩ := un_some z_h63
  obtain ⟨z_kn1, z_v1⟩ := z_a1
  (try dsimp only at z_h64)
  obtain ⟨z_c1, rfl, z_h65⟩ := unA_some z_h64
  obtain ⟨z_x1_0, z_r1_0, rfl, z_h66⟩ := un_some z_h65
  obtain ⟨x, rfl, z_h67⟩ := unI_some z_h66
  obtain ⟨z_x1_1, z_r1_1, rfl, z_h68⟩ := un_some z_h67
  obtain ⟨y, rfl, z_h69⟩ := unI_some z_h68
  obtain ⟨z_x1_2, z_r1_2, rfl, z_h70⟩ := un_some z_h69
  obtain ⟨z, rfl, z_h71⟩ := unI_some z_h70
  obtain ⟨rfl, z_h72⟩ := unE_some z_h71
  obtain ⟨rfl, z_h73⟩ := unE_some z_h72
  simp only [Option.some.injEq] at z_h73
  subst z_h73
  simp only [Tr.val, Option.some.injEq] at z_hr
  subst z_hr
  exact calls_of_tree (by kernel_rfl) (kiA_S3_ok) (ki_tree n0 d0 s0 a0 j0 l0 h0 n1 d1 s1 a1 j1 l1 h1 n2 d2 s2 a2 j2 l2 h2 n3 d3 s3 a3 j3 l3 h3 xy tk x y z) rfl z_w
def kiA_S4 : Sums := addS 17 ki_g kiA_S3
theorem kiA_S4_ok : SumOK Try.prog kiA_S4 := addS_ok ki_ok (kiA_S3_ok)
set_option maxRecDepth 100000 in
theorem ri_tree (n0 d0 s0 a0 j0 l0 h0 n1 d1 s1 a1 j1 l1 h1 n2 d2 s2 a2 j2 l2 h2 n3 d3 s3 a3 j3 l3 h3 : Int) (xy : Bool) (tk x y z : Int) : evalF Try.prog kiA_S4 6 18 [(false, .agg #[.int .i64 n0, .int .i64 d0, .int .i64 s0, .int .i64 a0, .int .i64 j0, .int .i64 l0, .int .i64 h0, .int .i64 n1, .int .i64 d1, .int .i64 s1, .int .i64 a1, .int .i64 j1, .int .i64 l1, .int .i64 h1, .int .i64 n2, .int .i64 d2, .int .i64 s2, .int .i64 a2, .int .i64 j2, .int .i64 l2, .int .i64 h2, .int .i64 n3, .int .i64 d3, .int .i64 s3, .int .i64 a3, .int .i64 j3, .int .i64 l3, .int .i64 h3, .bool xy, .int .i64 tk]), (false, .agg #[.int .i64 x, .int .i64 y, .int .i64 z])] = .ret (false, .bool (bif bif bif kv0 n0 d0 s0 a0 j0 l0 h0 n1 d1 s1 a1 j1 l1 h1 n2 d2 s2 a2 j2 l2 h2 n3 d3 s3 a3 j3 l3 h3 xy tk then bif decide (x ≥ l0) then decide (x ≤ h0) else false else false then bif decide (y ≥ l1) then decide (y ≤ h1) else false else false then bif decide (z ≥ l2) then decide (z ≤ h2) else false else false)) := by kernel_rfl
theorem ri_eq (n0 d0 s0 a0 j0 l0 h0 n1 d1 s1 a1 j1 l1 h1 n2 d2 s2 a2 j2 l2 h2 n3 d3 s3 a3 j3 l3 h3 : Int) (xy : Bool) (tk x y z : Int) : (bif bif bif kv0 n0 d0 s0 a0 j0 l0 h0 n1 d1 s1 a1 j1 l1 h1 n2 d2 s2 a2 j2 l2 h2 n3 d3 s3 a3 j3 l3 h3 xy tk then bif decide (x ≥ l0) then decide (x ≤ h0) else false else false then bif decide (y ≥ l1) then decide (y ≤ h1) else false else false then bif decide (z ≥ l2) then decide (z ≤ h2) else false else false) = ki0 n0 d0 s0 a0 j0 l0 h0 n1 d1 s1 a1 j1 l1 h1 n2 d2 s2 a2 j2 l2 h2 n3 d3 s3 a3 j3 l3 h3 xy tk x y z := by
  unfold ki0
  generalize kv0 n0 d0 s0 a0 j0 l0 h0 n1 d1 s1 a1 j1 l1 h1 n2 d2 s2 a2 j2 l2 h2 n3 d3 s3 a3 j3 l3 h3 xy tk = V
  cases V <;> rw [Bool.eq_iff_iff] <;> simp <;> omega
theorem ri_ok : ∀ args t, ki_g args = some t → ∀ r, t.val = some r → ∀ w, Calls Try.prog 18 (args.map (·.2)).toArray w fun e w' => e = .returned r.2 ∧ Ext w w' := by
  intro z_args z_t z_h0 z_r z_hr z_w
  unfold ki_g at z_h0
  obtain ⟨z_a0, z_args0, rfl, z_h1⟩ := un_some z_h0
  obtain ⟨z_kn0, z_v0⟩ := z_a0
  (try dsimp only at z_h1)
  obtain ⟨z_c0, rfl, z_h2⟩ := unA_some z_h1
  obtain ⟨z_x0_0, z_r0_0, rfl, z_h3⟩ := un_some z_h2
  obtain ⟨n0, rfl, z_h4⟩ := unI_some z_h3
  obtain ⟨z_x0_1, z_r0_1, rfl, z_h5⟩ := un_some z_h4
  obtain ⟨d0, rfl, z_h6⟩ := unI_some z_h5
  obtain ⟨z_x0_2, z_r0_2, rfl, z_h7⟩ := un_some z_h6
  obtain ⟨s0, rfl, z_h8⟩ := unI_some z_h7
  obtain ⟨z_x0_3, z_r0_3, rfl, z_h9⟩ := un_some z_h8
  obtain ⟨a0, rfl, z_h10⟩ := unI_some z_h9
  obtain ⟨z_x0_4, z_r0_4, rfl, z_h11⟩ := un_some z_h10
  obtain ⟨j0, rfl, z_h12⟩ := unI_some z_h11
  obtain ⟨z_x0_5, z_r0_5, rfl, z_h13⟩ := un_some z_h12
  obtain ⟨l0, rfl, z_h14⟩ := unI_some z_h13
  obtain ⟨z_x0_6, z_r0_6, rfl, z_h15⟩ := un_some z_h14
  obtain ⟨h0, rfl, z_h16⟩ := unI_some z_h15
  obtain ⟨z_x0_7, z_r0_7, rfl, z_h17⟩ := un_some z_h16
  obtain ⟨n1, rfl, z_h18⟩ := unI_some z_h17
  obtain ⟨z_x0_8, z_r0_8, rfl, z_h19⟩ := un_some z_h18
  obtain ⟨d1, rfl, z_h20⟩ := unI_some z_h19
  obtain ⟨z_x0_9, z_r0_9, rfl, z_h21⟩ := un_some z_h20
  obtain ⟨s1, rfl, z_h22⟩ := unI_some z_h21
  obtain ⟨z_x0_10, z_r0_10, rfl, z_h23⟩ := un_some z_h22
  obtain ⟨a1, rfl, z_h24⟩ := unI_some z_h23
  obtain ⟨z_x0_11, z_r0_11, rfl, z_h25⟩ := un_some z_h24
  obtain ⟨j1, rfl, z_h26⟩ := unI_some z_h25
  obtain ⟨z_x0_12, z_r0_12, rfl, z_h27⟩ := un_some z_h26
  obtain ⟨l1, rfl, z_h28⟩ := unI_some z_h27
  obtain ⟨z_x0_13, z_r0_13, rfl, z_h29⟩ := un_some z_h28
  obtain ⟨h1, rfl, z_h30⟩ := unI_some z_h29
  obtain ⟨z_x0_14, z_r0_14, rfl, z_h31⟩ := un_some z_h30
  obtain ⟨n2, rfl, z_h32⟩ := unI_some z_h31
  obtain ⟨z_x0_15, z_r0_15, rfl, z_h33⟩ := un_some z_h32
  obtain ⟨d2, rfl, z_h34⟩ := unI_some z_h33
  obtain ⟨z_x0_16, z_r0_16, rfl, z_h35⟩ := un_some z_h34
  obtain ⟨s2, rfl, z_h36⟩ := unI_some z_h35
  obtain ⟨z_x0_17, z_r0_17, rfl, z_h37⟩ := un_some z_h36
  obtain ⟨a2, rfl, z_h38⟩ := unI_some z_h37
  obtain ⟨z_x0_18, z_r0_18, rfl, z_h39⟩ := un_some z_h38
  obtain ⟨j2, rfl, z_h40⟩ := unI_some z_h39
  obtain ⟨z_x0_19, z_r0_19, rfl, z_h41⟩ := un_some z_h40
  obtain ⟨l2, rfl, z_h42⟩ := unI_some z_h41
  obtain ⟨z_x0_20, z_r0_20, rfl, z_h43⟩ := un_some z_h42
  obtain ⟨h2, rfl, z_h44⟩ := unI_some z_h43
  obtain ⟨z_x0_21, z_r0_21, rfl, z_h45⟩ := un_some z_h44
  obtain ⟨n3, rfl, z_h46⟩ := unI_some z_h45
  obtain ⟨z_x0_22, z_r0_22, rfl, z_h47⟩ := un_some z_h46
  obtain ⟨d3, rfl, z_h48⟩ := unI_some z_h47
  obtain ⟨z_x0_23, z_r0_23, rfl, z_h49⟩ := un_some z_h48
  obtain ⟨s3, rfl, z_h50⟩ := unI_some z_h49
  obtain ⟨z_x0_24, z_r0_24, rfl, z_h51⟩ := un_some z_h50
  obtain ⟨a3, rfl, z_h52⟩ := unI_some z_h51
  obtain ⟨z_x0_25, z_r0_25, rfl, z_h53⟩ := un_some z_h52
  obtain ⟨j3, rfl, z_h54⟩ := unI_some z_h53
  obtain ⟨z_x0_26, z_r0_26, rfl, z_h55⟩ := un_some z_h54
  obtain ⟨l3, rfl, z_h56⟩ := unI_some z_h55
  obtain ⟨z_x0_27, z_r0_27, rfl, z_h57⟩ := un_some z_h56
  obtain ⟨h3, rfl, z_h58⟩ := unI_some z_h57
  obtain ⟨z_x0_28, z_r0_28, rfl, z_h59⟩ := un_some z_h58
  obtain ⟨xy, rfl, z_h60⟩ := unB_some z_h59
  obtain ⟨z_x0_29, z_r0_29, rfl, z_h61⟩ := un_some z_h60
  obtain ⟨tk, rfl, z_h62⟩ := unI_some z_h61
  obtain ⟨rfl, z_h63⟩ := unE_some z_h62
  obtain ⟨z_a1, z_args1, rfl, z_h64⟩ := un_some z_h63
  obtain ⟨z_kn1, z_v1⟩ := z_a1
  (try dsimp only at z_h64)
  obtain ⟨z_c1, rfl, z_h65⟩ := unA_some z_h64
  obtain ⟨z_x1_0, z_r1_0, rfl, z_h66⟩ := un_some z_h65
  obtain ⟨x, rfl, z_h67⟩ := unI_some z_h66
  obtain ⟨z_x1_1, z_r1_1, rfl, z_h68⟩ := un_some z_h67
  obtain ⟨y, rfl, z_h69⟩ := unI_some z_h68
  obtain ⟨z_x1_2, z_r1_2, rfl, z_h70⟩ := un_some z_h69
  obtain ⟨z, rfl, z_h71⟩ := unI_some z_h70
  obtain ⟨rfl, z_h72⟩ := unE_some z_h71
  obtain ⟨rfl, z_h73⟩ := unE_some z_h72
  simp only [Option.some.injEq] at z_h73
  subst z_h73
  simp only [Tr.val, Option.some.injEq] at z_hr
  subst z_hr
  exact calls_of_tree (by kernel_rfl) (kiA_S4_ok) (ri_tree n0 d0 s0 a0 j0 l0 h0 n1 d1 s1 a1 j1 l1 h1 n2 d2 s2 a2 j2 l2 h2 n3 d3 s3 a3 j3 l3 h3 xy tk x y z) (by simp only [Tr.all]; rw [ri_eq]) z_w
def kiA_S5 : Sums := addS 18 ki_g kiA_S4
theorem kiA_S5_ok : SumOK Try.prog kiA_S5 := addS_ok ri_ok (kiA_S4_ok)
def awk_g : List (Bool × Value) → Option (Tr (Bool × Value)) := fun z_args => unE z_args <| some (.ret (true, .bool true))
set_option maxRecDepth 100000 in
theorem awk_tree  : evalF Try.prog kiA_S5 6 19 [] = .ret (true, .bool (true)) := by kernel_rfl
theorem awk_ok : ∀ args t, awk_g args = some t → ∀ r, t.val = some r → ∀ w, Calls Try.prog 19 (args.map (·.2)).toArray w fun e w' => e = .returned r.2 ∧ Ext w w' := by
  intro z_args z_t z_h0 z_r z_hr z_w
  unfold awk_g at z_h0
  obtain ⟨rfl, z_h1⟩ := unE_some z_h0
  simp only [Option.some.injEq] at z_h1
  subst z_h1
  simp only [Tr.val, Option.some.injEq] at z_hr
  subst z_hr
  exact calls_of_tree (by kernel_rfl) (kiA_S5_ok) awk_tree rfl z_w
def kiA_S6 : Sums := addS 19 awk_g kiA_S5
theorem kiA_S6_ok : SumOK Try.prog kiA_S6 := addS_ok awk_ok (kiA_S5_ok)
set_option maxRecDepth 100000 in
theorem law_KinChecks_tree (n0 d0 s0 a0 j0 l0 h0 n1 d1 s1 a1 j1 l1 h1 n2 d2 s2 a2 j2 l2 h2 n3 d3 s3 a3 j3 l3 h3 : Int) (xy : Bool) (tk x y z : Int) : evalF Try.prog kiA_S6 6 3 [(false, .agg #[.int .i64 n0, .int .i64 d0, .int .i64 s0, .int .i64 a0, .int .i64 j0, .int .i64 l0, .int .i64 h0, .int .i64 n1, .int .i64 d1, .int .i64 s1, .int .i64 a1, .int .i64 j1, .int .i64 l1, .int .i64 h1, .int .i64 n2, .int .i64 d2, .int .i64 s2, .int .i64 a2, .int .i64 j2, .int .i64 l2, .int .i64 h2, .int .i64 n3, .int .i64 d3, .int .i64 s3, .int .i64 a3, .int .i64 j3, .int .i64 l3, .int .i64 h3, .bool xy, .int .i64 tk]), (false, .agg #[.int .i64 x, .int .i64 y, .int .i64 z])] = .ret (false, .bool (bif bif kv0 n0 d0 s0 a0 j0 l0 h0 n1 d1 s1 a1 j1 l1 h1 n2 d2 s2 a2 j2 l2 h2 n3 d3 s3 a3 j3 l3 h3 xy tk == kv0 n0 d0 s0 a0 j0 l0 h0 n1 d1 s1 a1 j1 l1 h1 n2 d2 s2 a2 j2 l2 h2 n3 d3 s3 a3 j3 l3 h3 xy tk then ki0 n0 d0 s0 a0 j0 l0 h0 n1 d1 s1 a1 j1 l1 h1 n2 d2 s2 a2 j2 l2 h2 n3 d3 s3 a3 j3 l3 h3 xy tk x y z == ki0 n0 d0 s0 a0 j0 l0 h0 n1 d1 s1 a1 j1 l1 h1 n2 d2 s2 a2 j2 l2 h2 n3 d3 s3 a3 j3 l3 h3 xy tk x y z else false then true else false)) := by kernel_rfl
set_option maxHeartbeats 4000000 in
theorem law_KinChecks (n0 d0 s0 a0 j0 l0 h0 n1 d1 s1 a1 j1 l1 h1 n2 d2 s2 a2 j2 l2 h2 n3 d3 s3 a3 j3 l3 h3 : Int) (xy : Bool) (tk x y z : Int) (z_w : World) : Calls Try.prog 3 #[.agg #[.int .i64 n0, .int .i64 d0, .int .i64 s0, .int .i64 a0, .int .i64 j0, .int .i64 l0, .int .i64 h0, .int .i64 n1, .int .i64 d1, .int .i64 s1, .int .i64 a1, .int .i64 j1, .int .i64 l1, .int .i64 h1, .int .i64 n2, .int .i64 d2, .int .i64 s2, .int .i64 a2, .int .i64 j2, .int .i64 l2, .int .i64 h2, .int .i64 n3, .int .i64 d3, .int .i64 s3, .int .i64 a3, .int .i64 j3, .int .i64 l3, .int .i64 h3, .bool xy, .int .i64 tk], .agg #[.int .i64 x, .int .i64 y, .int .i64 z]] z_w fun e w' => e = .returned (.bool true) ∧ Ext z_w w' := by
  refine calls_of_tree (by kernel_rfl) (kiA_S6_ok) (law_KinChecks_tree n0 d0 s0 a0 j0 l0 h0 n1 d1 s1 a1 j1 l1 h1 n2 d2 s2 a2 j2 l2 h2 n3 d3 s3 a3 j3 l3 h3 xy tk x y z) (v := .bool true) ?_ z_w
  simp [Tr.all]
end Go.Proofs.Ythgmacoljkljfaa
