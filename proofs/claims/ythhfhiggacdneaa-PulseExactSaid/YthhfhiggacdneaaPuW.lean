/-
  Layer 46: the example of the chapter.
-/
import Derived.Test.YthhfhiggacdneaaProg
import Derived.Test.YthhfhiggacdneaaFvX
import Derived.Test.YthhfhiggacdneaaFvZ
import Derived.Test.YthhfhiggacdneaaAut
import Derived.Test.YthhfhiggacdneaaPl
import Derived.Test.YthhfhiggacdneaaSqr
namespace Go.Proofs.Ythhfhiggacdneaa
open Go
set_option maxRecDepth 100000 in
theorem me24_0_tree : evalF Try.prog S0 (opens [45]) L0 9 24 [.ag [.v true (.int .i64 (2)), .v true (.int .i64 (1)), .v true (.int .i64 (0)), .v true (.int .i64 (0)), .v true (.int .i64 (50)), .v true (.int .i64 (0)), .v true (.int .i64 (100)), .v true (.int .i64 (0))], .one (.v true (.int .i64 (1))), .one (.v true (.int .i64 (100)))] = .ret (.one (.v true (.int .i64 (10)))) := by kernel_rfl
def me24_0_g : List AV → Option (Tr AV)
  | [.ag [.v _ (.int .i64 a0), .v _ (.int .i64 a1), .v _ (.int .i64 a2), .v _ (.int .i64 a3), .v _ (.int .i64 a4), .v _ (.int .i64 a5), .v _ (.int .i64 a6), .v _ (.int .i64 a7)], .one (.v _ (.int .i64 a8)), .one (.v _ (.int .i64 a9))] =>
    match decide (a0 = (2 : Int)) && decide (a1 = (1 : Int)) && decide (a2 = (0 : Int)) && decide (a3 = (0 : Int)) && decide (a4 = (50 : Int)) && decide (a5 = (0 : Int)) && decide (a6 = (100 : Int)) && decide (a7 = (0 : Int)) && decide (a8 = (1 : Int)) && decide (a9 = (100 : Int)) with
    | true => some (.ret (.one (.v true (.int .i64 (10)))))
    | false => none
  | _ => none
set_option maxHeartbeats 4000000 in
theorem me24_0_ok : FunOK Try.prog 24 me24_0_g := by
  refine fun_ok (by kernel_rfl) (S0_ok _) (L0_ok _) 9 (On := (opens [45])) (fun args t h => ?_)
  unfold me24_0_g at h
  split at h
  · split at h
    · rename_i hc
      simp only [Bool.and_eq_true, decide_eq_true_eq] at hc
      obtain ⟨⟨⟨⟨⟨⟨⟨⟨⟨rfl, rfl⟩, rfl⟩, rfl⟩, rfl⟩, rfl⟩, rfl⟩, rfl⟩, rfl⟩, rfl⟩ := hc
      simp only [Option.some.injEq] at h
      subst h
      refine ⟨[.ag [.v true (.int .i64 (2)), .v true (.int .i64 (1)), .v true (.int .i64 (0)), .v true (.int .i64 (0)), .v true (.int .i64 (50)), .v true (.int .i64 (0)), .v true (.int .i64 (100)), .v true (.int .i64 (0))], .one (.v true (.int .i64 (1))), .one (.v true (.int .i64 (100)))], rfl, fun fr w us h => h, fun r hr => ?_⟩
      rw [me24_0_tree]
      exact hr
    · cases h
  · cases h
noncomputable def puW_S51 : Sums := addS 24 me24_0_g S0
theorem puW_S51_ok : SumOK Try.prog puW_S51 := addS_ok (me24_0_ok) (S0_ok _)
set_option maxRecDepth 100000 in
theorem me24_1_tree : evalF Try.prog puW_S51 (opens [45]) L0 9 24 [.ag [.v true (.int .i64 (2)), .v true (.int .i64 (1)), .v true (.int .i64 (0)), .v true (.int .i64 (0)), .v true (.int .i64 (50)), .v true (.int .i64 (0)), .v true (.int .i64 (100)), .v true (.int .i64 (0))], .one (.v true (.int .i64 (2))), .one (.v true (.int .i64 (100)))] = .ret (.one (.v true (.int .i64 (10)))) := by kernel_rfl
def me24_1_g : List AV → Option (Tr AV)
  | [.ag [.v _ (.int .i64 a0), .v _ (.int .i64 a1), .v _ (.int .i64 a2), .v _ (.int .i64 a3), .v _ (.int .i64 a4), .v _ (.int .i64 a5), .v _ (.int .i64 a6), .v _ (.int .i64 a7)], .one (.v _ (.int .i64 a8)), .one (.v _ (.int .i64 a9))] =>
    match decide (a0 = (2 : Int)) && decide (a1 = (1 : Int)) && decide (a2 = (0 : Int)) && decide (a3 = (0 : Int)) && decide (a4 = (50 : Int)) && decide (a5 = (0 : Int)) && decide (a6 = (100 : Int)) && decide (a7 = (0 : Int)) && decide (a8 = (2 : Int)) && decide (a9 = (100 : Int)) with
    | true => some (.ret (.one (.v true (.int .i64 (10)))))
    | false => none
  | _ => none
set_option maxHeartbeats 4000000 in
theorem me24_1_ok : FunOK Try.prog 24 me24_1_g := by
  refine fun_ok (by kernel_rfl) (puW_S51_ok) (L0_ok _) 9 (On := (opens [45])) (fun args t h => ?_)
  unfold me24_1_g at h
  split at h
  · split at h
    · rename_i hc
      simp only [Bool.and_eq_true, decide_eq_true_eq] at hc
      obtain ⟨⟨⟨⟨⟨⟨⟨⟨⟨rfl, rfl⟩, rfl⟩, rfl⟩, rfl⟩, rfl⟩, rfl⟩, rfl⟩, rfl⟩, rfl⟩ := hc
      simp only [Option.some.injEq] at h
      subst h
      refine ⟨[.ag [.v true (.int .i64 (2)), .v true (.int .i64 (1)), .v true (.int .i64 (0)), .v true (.int .i64 (0)), .v true (.int .i64 (50)), .v true (.int .i64 (0)), .v true (.int .i64 (100)), .v true (.int .i64 (0))], .one (.v true (.int .i64 (2))), .one (.v true (.int .i64 (100)))], rfl, fun fr w us h => h, fun r hr => ?_⟩
      rw [me24_1_tree]
      exact hr
    · cases h
  · cases h
noncomputable def puW_S52 : Sums := addS 24 me24_1_g puW_S51
theorem puW_S52_ok : SumOK Try.prog puW_S52 := addS_ok (me24_1_ok) (puW_S51_ok)
set_option maxRecDepth 100000 in
theorem me24_2_tree : evalF Try.prog puW_S52 (opens [45]) L0 9 24 [.ag [.v true (.int .i64 (2)), .v true (.int .i64 (1)), .v true (.int .i64 (0)), .v true (.int .i64 (0)), .v true (.int .i64 (50)), .v true (.int .i64 (0)), .v true (.int .i64 (100)), .v true (.int .i64 (0))], .one (.v true (.int .i64 (3))), .one (.v true (.int .i64 (100)))] = .ret (.one (.v true (.int .i64 (0)))) := by kernel_rfl
def me24_2_g : List AV → Option (Tr AV)
  | [.ag [.v _ (.int .i64 a0), .v _ (.int .i64 a1), .v _ (.int .i64 a2), .v _ (.int .i64 a3), .v _ (.int .i64 a4), .v _ (.int .i64 a5), .v _ (.int .i64 a6), .v _ (.int .i64 a7)], .one (.v _ (.int .i64 a8)), .one (.v _ (.int .i64 a9))] =>
    match decide (a0 = (2 : Int)) && decide (a1 = (1 : Int)) && decide (a2 = (0 : Int)) && decide (a3 = (0 : Int)) && decide (a4 = (50 : Int)) && decide (a5 = (0 : Int)) && decide (a6 = (100 : Int)) && decide (a7 = (0 : Int)) && decide (a8 = (3 : Int)) && decide (a9 = (100 : Int)) with
    | true => some (.ret (.one (.v true (.int .i64 (0)))))
    | false => none
  | _ => none
set_option maxHeartbeats 4000000 in
theorem me24_2_ok : FunOK Try.prog 24 me24_2_g := by
  refine fun_ok (by kernel_rfl) (puW_S52_ok) (L0_ok _) 9 (On := (opens [45])) (fun args t h => ?_)
  unfold me24_2_g at h
  split at h
  · split at h
    · rename_i hc
      simp only [Bool.and_eq_true, decide_eq_true_eq] at hc
      obtain ⟨⟨⟨⟨⟨⟨⟨⟨⟨rfl, rfl⟩, rfl⟩, rfl⟩, rfl⟩, rfl⟩, rfl⟩, rfl⟩, rfl⟩, rfl⟩ := hc
      simp only [Option.some.injEq] at h
      subst h
      refine ⟨[.ag [.v true (.int .i64 (2)), .v true (.int .i64 (1)), .v true (.int .i64 (0)), .v true (.int .i64 (0)), .v true (.int .i64 (50)), .v true (.int .i64 (0)), .v true (.int .i64 (100)), .v true (.int .i64 (0))], .one (.v true (.int .i64 (3))), .one (.v true (.int .i64 (100)))], rfl, fun fr w us h => h, fun r hr => ?_⟩
      rw [me24_2_tree]
      exact hr
    · cases h
  · cases h
noncomputable def puW_S53 : Sums := addS 24 me24_2_g puW_S52
theorem puW_S53_ok : SumOK Try.prog puW_S53 := addS_ok (me24_2_ok) (puW_S52_ok)
set_option maxRecDepth 100000 in
theorem me14_3_tree : evalF Try.prog puW_S53 (opens [45]) L0 9 14 [.ag [.v true (.int .i64 (2)), .v true (.int .i64 (1)), .v true (.int .i64 (0)), .v true (.int .i64 (0)), .v true (.int .i64 (50)), .v true (.int .i64 (0)), .v true (.int .i64 (100)), .v true (.int .i64 (0)), .v true (.int .i64 (0)), .v true (.int .i64 (10))], .one (.v true (.int .i64 (100)))] = .ret (.tup [(true, [.v true (.int .i64 (2)), .v true (.int .i64 (1)), .v true (.int .i64 (0)), .v true (.int .i64 (0)), .v true (.int .i64 (50)), .v true (.int .i64 (0)), .v true (.int .i64 (100)), .v true (.int .i64 (0)), .v true (.int .i64 (0)), .v true (.int .i64 (9))]), (true, [.v true (.int .i64 (0)), .v true (.int .i64 (0)), .v true (.int .i64 (0)), .v true (.int .i64 (0))])]) := by kernel_rfl
def me14_3_g : List AV → Option (Tr AV)
  | [.ag [.v _ (.int .i64 a0), .v _ (.int .i64 a1), .v _ (.int .i64 a2), .v _ (.int .i64 a3), .v _ (.int .i64 a4), .v _ (.int .i64 a5), .v _ (.int .i64 a6), .v _ (.int .i64 a7), .v _ (.int .i64 a8), .v _ (.int .i64 a9)], .one (.v _ (.int .i64 a10))] =>
    match decide (a0 = (2 : Int)) && decide (a1 = (1 : Int)) && decide (a2 = (0 : Int)) && decide (a3 = (0 : Int)) && decide (a4 = (50 : Int)) && decide (a5 = (0 : Int)) && decide (a6 = (100 : Int)) && decide (a7 = (0 : Int)) && decide (a8 = (0 : Int)) && decide (a9 = (10 : Int)) && decide (a10 = (100 : Int)) with
    | true => some (.ret (.tup [(true, [.v true (.int .i64 (2)), .v true (.int .i64 (1)), .v true (.int .i64 (0)), .v true (.int .i64 (0)), .v true (.int .i64 (50)), .v true (.int .i64 (0)), .v true (.int .i64 (100)), .v true (.int .i64 (0)), .v true (.int .i64 (0)), .v true (.int .i64 (9))]), (true, [.v true (.int .i64 (0)), .v true (.int .i64 (0)), .v true (.int .i64 (0)), .v true (.int .i64 (0))])]))
    | false => none
  | _ => none
set_option maxHeartbeats 4000000 in
theorem me14_3_ok : FunOK Try.prog 14 me14_3_g := by
  refine fun_ok (by kernel_rfl) (puW_S53_ok) (L0_ok _) 9 (On := (opens [45])) (fun args t h => ?_)
  unfold me14_3_g at h
  split at h
  · split at h
    · rename_i hc
      simp only [Bool.and_eq_true, decide_eq_true_eq] at hc
      obtain ⟨⟨⟨⟨⟨⟨⟨⟨⟨⟨rfl, rfl⟩, rfl⟩, rfl⟩, rfl⟩, rfl⟩, rfl⟩, rfl⟩, rfl⟩, rfl⟩, rfl⟩ := hc
      simp only [Option.some.injEq] at h
      subst h
      refine ⟨[.ag [.v true (.int .i64 (2)), .v true (.int .i64 (1)), .v true (.int .i64 (0)), .v true (.int .i64 (0)), .v true (.int .i64 (50)), .v true (.int .i64 (0)), .v true (.int .i64 (100)), .v true (.int .i64 (0)), .v true (.int .i64 (0)), .v true (.int .i64 (10))], .one (.v true (.int .i64 (100)))], rfl, fun fr w us h => h, fun r hr => ?_⟩
      rw [me14_3_tree]
      exact hr
    · cases h
  · cases h
noncomputable def puW_S54 : Sums := addS 14 me14_3_g puW_S53
theorem puW_S54_ok : SumOK Try.prog puW_S54 := addS_ok (me14_3_ok) (puW_S53_ok)
set_option maxRecDepth 100000 in
theorem me14_4_tree : evalF Try.prog puW_S54 (opens [45]) L0 9 14 [.ag [.v true (.int .i64 (2)), .v true (.int .i64 (1)), .v true (.int .i64 (0)), .v true (.int .i64 (0)), .v true (.int .i64 (50)), .v true (.int .i64 (0)), .v true (.int .i64 (100)), .v true (.int .i64 (0)), .v true (.int .i64 (0)), .v true (.int .i64 (9))], .one (.v true (.int .i64 (100)))] = .ret (.tup [(true, [.v true (.int .i64 (2)), .v true (.int .i64 (1)), .v true (.int .i64 (0)), .v true (.int .i64 (0)), .v true (.int .i64 (50)), .v true (.int .i64 (0)), .v true (.int .i64 (100)), .v true (.int .i64 (0)), .v true (.int .i64 (0)), .v true (.int .i64 (8))]), (true, [.v true (.int .i64 (0)), .v true (.int .i64 (0)), .v true (.int .i64 (0)), .v true (.int .i64 (0))])]) := by kernel_rfl
def me14_4_g : List AV → Option (Tr AV)
  | [.ag [.v _ (.int .i64 a0), .v _ (.int .i64 a1), .v _ (.int .i64 a2), .v _ (.int .i64 a3), .v _ (.int .i64 a4), .v _ (.int .i64 a5), .v _ (.int .i64 a6), .v _ (.int .i64 a7), .v _ (.int .i64 a8), .v _ (.int .i64 a9)], .one (.v _ (.int .i64 a10))] =>
    match decide (a0 = (2 : Int)) && decide (a1 = (1 : Int)) && decide (a2 = (0 : Int)) && decide (a3 = (0 : Int)) && decide (a4 = (50 : Int)) && decide (a5 = (0 : Int)) && decide (a6 = (100 : Int)) && decide (a7 = (0 : Int)) && decide (a8 = (0 : Int)) && decide (a9 = (9 : Int)) && decide (a10 = (100 : Int)) with
    | true => some (.ret (.tup [(true, [.v true (.int .i64 (2)), .v true (.int .i64 (1)), .v true (.int .i64 (0)), .v true (.int .i64 (0)), .v true (.int .i64 (50)), .v true (.int .i64 (0)), .v true (.int .i64 (100)), .v true (.int .i64 (0)), .v true (.int .i64 (0)), .v true (.int .i64 (8))]), (true, [.v true (.int .i64 (0)), .v true (.int .i64 (0)), .v true (.int .i64 (0)), .v true (.int .i64 (0))])]))
    | false => none
  | _ => none
set_option maxHeartbeats 4000000 in
theorem me14_4_ok : FunOK Try.prog 14 me14_4_g := by
  refine fun_ok (by kernel_rfl) (puW_S54_ok) (L0_ok _) 9 (On := (opens [45])) (fun args t h => ?_)
  unfold me14_4_g at h
  split at h
  · split at h
    · rename_i hc
      simp only [Bool.and_eq_true, decide_eq_true_eq] at hc
      obtain ⟨⟨⟨⟨⟨⟨⟨⟨⟨⟨rfl, rfl⟩, rfl⟩, rfl⟩, rfl⟩, rfl⟩, rfl⟩, rfl⟩, rfl⟩, rfl⟩, rfl⟩ := hc
      simp only [Option.some.injEq] at h
      subst h
      refine ⟨[.ag [.v true (.int .i64 (2)), .v true (.int .i64 (1)), .v true (.int .i64 (0)), .v true (.int .i64 (0)), .v true (.int .i64 (50)), .v true (.int .i64 (0)), .v true (.int .i64 (100)), .v true (.int .i64 (0)), .v true (.int .i64 (0)), .v true (.int .i64 (9))], .one (.v true (.int .i64 (100)))], rfl, fun fr w us h => h, fun r hr => ?_⟩
      rw [me14_4_tree]
      exact hr
    · cases h
  · cases h
noncomputable def puW_S55 : Sums := addS 14 me14_4_g puW_S54
theorem puW_S55_ok : SumOK Try.prog puW_S55 := addS_ok (me14_4_ok) (puW_S54_ok)
set_option maxRecDepth 100000 in
theorem me14_5_tree : evalF Try.prog puW_S55 (opens [45]) L0 9 14 [.ag [.v true (.int .i64 (2)), .v true (.int .i64 (1)), .v true (.int .i64 (0)), .v true (.int .i64 (0)), .v true (.int .i64 (50)), .v true (.int .i64 (0)), .v true (.int .i64 (100)), .v true (.int .i64 (0)), .v true (.int .i64 (0)), .v true (.int .i64 (8))], .one (.v true (.int .i64 (100)))] = .ret (.tup [(true, [.v true (.int .i64 (2)), .v true (.int .i64 (1)), .v true (.int .i64 (0)), .v true (.int .i64 (0)), .v true (.int .i64 (50)), .v true (.int .i64 (0)), .v true (.int .i64 (100)), .v true (.int .i64 (0)), .v true (.int .i64 (0)), .v true (.int .i64 (7))]), (true, [.v true (.int .i64 (0)), .v true (.int .i64 (0)), .v true (.int .i64 (0)), .v true (.int .i64 (0))])]) := by kernel_rfl
def me14_5_g : List AV → Option (Tr AV)
  | [.ag [.v _ (.int .i64 a0), .v _ (.int .i64 a1), .v _ (.int .i64 a2), .v _ (.int .i64 a3), .v _ (.int .i64 a4), .v _ (.int .i64 a5), .v _ (.int .i64 a6), .v _ (.int .i64 a7), .v _ (.int .i64 a8), .v _ (.int .i64 a9)], .one (.v _ (.int .i64 a10))] =>
    match decide (a0 = (2 : Int)) && decide (a1 = (1 : Int)) && decide (a2 = (0 : Int)) && decide (a3 = (0 : Int)) && decide (a4 = (50 : Int)) && decide (a5 = (0 : Int)) && decide (a6 = (100 : Int)) && decide (a7 = (0 : Int)) && decide (a8 = (0 : Int)) && decide (a9 = (8 : Int)) && decide (a10 = (100 : Int)) with
    | true => some (.ret (.tup [(true, [.v true (.int .i64 (2)), .v true (.int .i64 (1)), .v true (.int .i64 (0)), .v true (.int .i64 (0)), .v true (.int .i64 (50)), .v true (.int .i64 (0)), .v true (.int .i64 (100)), .v true (.int .i64 (0)), .v true (.int .i64 (0)), .v true (.int .i64 (7))]), (true, [.v true (.int .i64 (0)), .v true (.int .i64 (0)), .v true (.int .i64 (0)), .v true (.int .i64 (0))])]))
    | false => none
  | _ => none
set_option maxHeartbeats 4000000 in
theorem me14_5_ok : FunOK Try.prog 14 me14_5_g := by
  refine fun_ok (by kernel_rfl) (puW_S55_ok) (L0_ok _) 9 (On := (opens [45])) (fun args t h => ?_)
  unfold me14_5_g at h
  split at h
  · split at h
    · rename_i hc
      simp only [Bool.and_eq_true, decide_eq_true_eq] at hc
      obtain ⟨⟨⟨⟨⟨⟨⟨⟨⟨⟨rfl, rfl⟩, rfl⟩, rfl⟩, rfl⟩, rfl⟩, rfl⟩, rfl⟩, rfl⟩, rfl⟩, rfl⟩ := hc
      simp only [Option.some.injEq] at h
      subst h
      refine ⟨[.ag [.v true (.int .i64 (2)), .v true (.int .i64 (1)), .v true (.int .i64 (0)), .v true (.int .i64 (0)), .v true (.int .i64 (50)), .v true (.int .i64 (0)), .v true (.int .i64 (100)), .v true (.int .i64 (0)), .v true (.int .i64 (0)), .v true (.int .i64 (8))], .one (.v true (.int .i64 (100)))], rfl, fun fr w us h => h, fun r hr => ?_⟩
      rw [me14_5_tree]
      exact hr
    · cases h
  · cases h
noncomputable def puW_S56 : Sums := addS 14 me14_5_g puW_S55
theorem puW_S56_ok : SumOK Try.prog puW_S56 := addS_ok (me14_5_ok) (puW_S55_ok)
set_option maxRecDepth 100000 in
theorem me14_6_tree : evalF Try.prog puW_S56 (opens [45]) L0 9 14 [.ag [.v true (.int .i64 (2)), .v true (.int .i64 (1)), .v true (.int .i64 (0)), .v true (.int .i64 (0)), .v true (.int .i64 (50)), .v true (.int .i64 (0)), .v true (.int .i64 (100)), .v true (.int .i64 (0)), .v true (.int .i64 (0)), .v true (.int .i64 (7))], .one (.v true (.int .i64 (100)))] = .ret (.tup [(true, [.v true (.int .i64 (2)), .v true (.int .i64 (1)), .v true (.int .i64 (0)), .v true (.int .i64 (0)), .v true (.int .i64 (50)), .v true (.int .i64 (0)), .v true (.int .i64 (100)), .v true (.int .i64 (0)), .v true (.int .i64 (0)), .v true (.int .i64 (6))]), (true, [.v true (.int .i64 (0)), .v true (.int .i64 (0)), .v true (.int .i64 (0)), .v true (.int .i64 (0))])]) := by kernel_rfl
def me14_6_g : List AV → Option (Tr AV)
  | [.ag [.v _ (.int .i64 a0), .v _ (.int .i64 a1), .v _ (.int .i64 a2), .v _ (.int .i64 a3), .v _ (.int .i64 a4), .v _ (.int .i64 a5), .v _ (.int .i64 a6), .v _ (.int .i64 a7), .v _ (.int .i64 a8), .v _ (.int .i64 a9)], .one (.v _ (.int .i64 a10))] =>
    match decide (a0 = (2 : Int)) && decide (a1 = (1 : Int)) && decide (a2 = (0 : Int)) && decide (a3 = (0 : Int)) && decide (a4 = (50 : Int)) && decide (a5 = (0 : Int)) && decide (a6 = (100 : Int)) && decide (a7 = (0 : Int)) && decide (a8 = (0 : Int)) && decide (a9 = (7 : Int)) && decide (a10 = (100 : Int)) with
    | true => some (.ret (.tup [(true, [.v true (.int .i64 (2)), .v true (.int .i64 (1)), .v true (.int .i64 (0)), .v true (.int .i64 (0)), .v true (.int .i64 (50)), .v true (.int .i64 (0)), .v true (.int .i64 (100)), .v true (.int .i64 (0)), .v true (.int .i64 (0)), .v true (.int .i64 (6))]), (true, [.v true (.int .i64 (0)), .v true (.int .i64 (0)), .v true (.int .i64 (0)), .v true (.int .i64 (0))])]))
    | false => none
  | _ => none
set_option maxHeartbeats 4000000 in
theorem me14_6_ok : FunOK Try.prog 14 me14_6_g := by
  refine fun_ok (by kernel_rfl) (puW_S56_ok) (L0_ok _) 9 (On := (opens [45])) (fun args t h => ?_)
  unfold me14_6_g at h
  split at h
  · split at h
    · rename_i hc
      simp only [Bool.and_eq_true, decide_eq_true_eq] at hc
      obtain ⟨⟨⟨⟨⟨⟨⟨⟨⟨⟨rfl, rfl⟩, rfl⟩, rfl⟩, rfl⟩, rfl⟩, rfl⟩, rfl⟩, rfl⟩, rfl⟩, rfl⟩ := hc
      simp only [Option.some.injEq] at h
      subst h
      refine ⟨[.ag [.v true (.int .i64 (2)), .v true (.int .i64 (1)), .v true (.int .i64 (0)), .v true (.int .i64 (0)), .v true (.int .i64 (50)), .v true (.int .i64 (0)), .v true (.int .i64 (100)), .v true (.int .i64 (0)), .v true (.int .i64 (0)), .v true (.int .i64 (7))], .one (.v true (.int .i64 (100)))], rfl, fun fr w us h => h, fun r hr => ?_⟩
      rw [me14_6_tree]
      exact hr
    · cases h
  · cases h
noncomputable def puW_S57 : Sums := addS 14 me14_6_g puW_S56
theorem puW_S57_ok : SumOK Try.prog puW_S57 := addS_ok (me14_6_ok) (puW_S56_ok)
set_option maxRecDepth 100000 in
theorem me14_7_tree : evalF Try.prog puW_S57 (opens [45]) L0 9 14 [.ag [.v true (.int .i64 (2)), .v true (.int .i64 (1)), .v true (.int .i64 (0)), .v true (.int .i64 (0)), .v true (.int .i64 (50)), .v true (.int .i64 (0)), .v true (.int .i64 (100)), .v true (.int .i64 (0)), .v true (.int .i64 (0)), .v true (.int .i64 (6))], .one (.v true (.int .i64 (100)))] = .ret (.tup [(true, [.v true (.int .i64 (2)), .v true (.int .i64 (1)), .v true (.int .i64 (0)), .v true (.int .i64 (0)), .v true (.int .i64 (50)), .v true (.int .i64 (0)), .v true (.int .i64 (100)), .v true (.int .i64 (0)), .v true (.int .i64 (0)), .v true (.int .i64 (5))]), (true, [.v true (.int .i64 (0)), .v true (.int .i64 (0)), .v true (.int .i64 (0)), .v true (.int .i64 (0))])]) := by kernel_rfl
def me14_7_g : List AV → Option (Tr AV)
  | [.ag [.v _ (.int .i64 a0), .v _ (.int .i64 a1), .v _ (.int .i64 a2), .v _ (.int .i64 a3), .v _ (.int .i64 a4), .v _ (.int .i64 a5), .v _ (.int .i64 a6), .v _ (.int .i64 a7), .v _ (.int .i64 a8), .v _ (.int .i64 a9)], .one (.v _ (.int .i64 a10))] =>
    match decide (a0 = (2 : Int)) && decide (a1 = (1 : Int)) && decide (a2 = (0 : Int)) && decide (a3 = (0 : Int)) && decide (a4 = (50 : Int)) && decide (a5 = (0 : Int)) && decide (a6 = (100 : Int)) && decide (a7 = (0 : Int)) && decide (a8 = (0 : Int)) && decide (a9 = (6 : Int)) && decide (a10 = (100 : Int)) with
    | true => some (.ret (.tup [(true, [.v true (.int .i64 (2)), .v true (.int .i64 (1)), .v true (.int .i64 (0)), .v true (.int .i64 (0)), .v true (.int .i64 (50)), .v true (.int .i64 (0)), .v true (.int .i64 (100)), .v true (.int .i64 (0)), .v true (.int .i64 (0)), .v true (.int .i64 (5))]), (true, [.v true (.int .i64 (0)), .v true (.int .i64 (0)), .v true (.int .i64 (0)), .v true (.int .i64 (0))])]))
    | false => none
  | _ => none
set_option maxHeartbeats 4000000 in
theorem me14_7_ok : FunOK Try.prog 14 me14_7_g := by
  refine fun_ok (by kernel_rfl) (puW_S57_ok) (L0_ok _) 9 (On := (opens [45])) (fun args t h => ?_)
  unfold me14_7_g at h
  split at h
  · split at h
    · rename_i hc
      simp only [Bool.and_eq_true, decide_eq_true_eq] at hc
      obtain ⟨⟨⟨⟨⟨⟨⟨⟨⟨⟨rfl, rfl⟩, rfl⟩, rfl⟩, rfl⟩, rfl⟩, rfl⟩, rfl⟩, rfl⟩, rfl⟩, rfl⟩ := hc
      simp only [Option.some.injEq] at h
      subst h
      refine ⟨[.ag [.v true (.int .i64 (2)), .v true (.int .i64 (1)), .v true (.int .i64 (0)), .v true (.int .i64 (0)), .v true (.int .i64 (50)), .v true (.int .i64 (0)), .v true (.int .i64 (100)), .v true (.int .i64 (0)), .v true (.int .i64 (0)), .v true (.int .i64 (6))], .one (.v true (.int .i64 (100)))], rfl, fun fr w us h => h, fun r hr => ?_⟩
      rw [me14_7_tree]
      exact hr
    · cases h
  · cases h
noncomputable def puW_S58 : Sums := addS 14 me14_7_g puW_S57
theorem puW_S58_ok : SumOK Try.prog puW_S58 := addS_ok (me14_7_ok) (puW_S57_ok)
set_option maxRecDepth 100000 in
theorem me14_8_tree : evalF Try.prog puW_S58 (opens [45]) L0 9 14 [.ag [.v true (.int .i64 (2)), .v true (.int .i64 (1)), .v true (.int .i64 (0)), .v true (.int .i64 (0)), .v true (.int .i64 (50)), .v true (.int .i64 (0)), .v true (.int .i64 (100)), .v true (.int .i64 (0)), .v true (.int .i64 (0)), .v true (.int .i64 (5))], .one (.v true (.int .i64 (100)))] = .ret (.tup [(true, [.v true (.int .i64 (2)), .v true (.int .i64 (1)), .v true (.int .i64 (0)), .v true (.int .i64 (0)), .v true (.int .i64 (50)), .v true (.int .i64 (0)), .v true (.int .i64 (100)), .v true (.int .i64 (0)), .v true (.int .i64 (0)), .v true (.int .i64 (4))]), (true, [.v true (.int .i64 (0)), .v true (.int .i64 (0)), .v true (.int .i64 (0)), .v true (.int .i64 (0))])]) := by kernel_rfl
def me14_8_g : List AV → Option (Tr AV)
  | [.ag [.v _ (.int .i64 a0), .v _ (.int .i64 a1), .v _ (.int .i64 a2), .v _ (.int .i64 a3), .v _ (.int .i64 a4), .v _ (.int .i64 a5), .v _ (.int .i64 a6), .v _ (.int .i64 a7), .v _ (.int .i64 a8), .v _ (.int .i64 a9)], .one (.v _ (.int .i64 a10))] =>
    match decide (a0 = (2 : Int)) && decide (a1 = (1 : Int)) && decide (a2 = (0 : Int)) && decide (a3 = (0 : Int)) && decide (a4 = (50 : Int)) && decide (a5 = (0 : Int)) && decide (a6 = (100 : Int)) && decide (a7 = (0 : Int)) && decide (a8 = (0 : Int)) && decide (a9 = (5 : Int)) && decide (a10 = (100 : Int)) with
    | true => some (.ret (.tup [(true, [.v true (.int .i64 (2)), .v true (.int .i64 (1)), .v true (.int .i64 (0)), .v true (.int .i64 (0)), .v true (.int .i64 (50)), .v true (.int .i64 (0)), .v true (.int .i64 (100)), .v true (.int .i64 (0)), .v true (.int .i64 (0)), .v true (.int .i64 (4))]), (true, [.v true (.int .i64 (0)), .v true (.int .i64 (0)), .v true (.int .i64 (0)), .v true (.int .i64 (0))])]))
    | false => none
  | _ => none
set_option maxHeartbeats 4000000 in
theorem me14_8_ok : FunOK Try.prog 14 me14_8_g := by
  refine fun_ok (by kernel_rfl) (puW_S58_ok) (L0_ok _) 9 (On := (opens [45])) (fun args t h => ?_)
  unfold me14_8_g at h
  split at h
  · split at h
    · rename_i hc
      simp only [Bool.and_eq_true, decide_eq_true_eq] at hc
      obtain ⟨⟨⟨⟨⟨⟨⟨⟨⟨⟨rfl, rfl⟩, rfl⟩, rfl⟩, rfl⟩, rfl⟩, rfl⟩, rfl⟩, rfl⟩, rfl⟩, rfl⟩ := hc
      simp only [Option.some.injEq] at h
      subst h
      refine ⟨[.ag [.v true (.int .i64 (2)), .v true (.int .i64 (1)), .v true (.int .i64 (0)), .v true (.int .i64 (0)), .v true (.int .i64 (50)), .v true (.int .i64 (0)), .v true (.int .i64 (100)), .v true (.int .i64 (0)), .v true (.int .i64 (0)), .v true (.int .i64 (5))], .one (.v true (.int .i64 (100)))], rfl, fun fr w us h => h, fun r hr => ?_⟩
      rw [me14_8_tree]
      exact hr
    · cases h
  · cases h
noncomputable def puW_S59 : Sums := addS 14 me14_8_g puW_S58
theorem puW_S59_ok : SumOK Try.prog puW_S59 := addS_ok (me14_8_ok) (puW_S58_ok)
set_option maxRecDepth 100000 in
theorem me14_9_tree : evalF Try.prog puW_S59 (opens [45]) L0 9 14 [.ag [.v true (.int .i64 (2)), .v true (.int .i64 (1)), .v true (.int .i64 (0)), .v true (.int .i64 (0)), .v true (.int .i64 (50)), .v true (.int .i64 (0)), .v true (.int .i64 (100)), .v true (.int .i64 (0)), .v true (.int .i64 (0)), .v true (.int .i64 (4))], .one (.v true (.int .i64 (100)))] = .ret (.tup [(true, [.v true (.int .i64 (2)), .v true (.int .i64 (1)), .v true (.int .i64 (0)), .v true (.int .i64 (0)), .v true (.int .i64 (50)), .v true (.int .i64 (0)), .v true (.int .i64 (100)), .v true (.int .i64 (0)), .v true (.int .i64 (0)), .v true (.int .i64 (3))]), (true, [.v true (.int .i64 (0)), .v true (.int .i64 (0)), .v true (.int .i64 (0)), .v true (.int .i64 (0))])]) := by kernel_rfl
def me14_9_g : List AV → Option (Tr AV)
  | [.ag [.v _ (.int .i64 a0), .v _ (.int .i64 a1), .v _ (.int .i64 a2), .v _ (.int .i64 a3), .v _ (.int .i64 a4), .v _ (.int .i64 a5), .v _ (.int .i64 a6), .v _ (.int .i64 a7), .v _ (.int .i64 a8), .v _ (.int .i64 a9)], .one (.v _ (.int .i64 a10))] =>
    match decide (a0 = (2 : Int)) && decide (a1 = (1 : Int)) && decide (a2 = (0 : Int)) && decide (a3 = (0 : Int)) && decide (a4 = (50 : Int)) && decide (a5 = (0 : Int)) && decide (a6 = (100 : Int)) && decide (a7 = (0 : Int)) && decide (a8 = (0 : Int)) && decide (a9 = (4 : Int)) && decide (a10 = (100 : Int)) with
    | true => some (.ret (.tup [(true, [.v true (.int .i64 (2)), .v true (.int .i64 (1)), .v true (.int .i64 (0)), .v true (.int .i64 (0)), .v true (.int .i64 (50)), .v true (.int .i64 (0)), .v true (.int .i64 (100)), .v true (.int .i64 (0)), .v true (.int .i64 (0)), .v true (.int .i64 (3))]), (true, [.v true (.int .i64 (0)), .v true (.int .i64 (0)), .v true (.int .i64 (0)), .v true (.int .i64 (0))])]))
    | false => none
  | _ => none
set_option maxHeartbeats 4000000 in
theorem me14_9_ok : FunOK Try.prog 14 me14_9_g := by
  refine fun_ok (by kernel_rfl) (puW_S59_ok) (L0_ok _) 9 (On := (opens [45])) (fun args t h => ?_)
  unfold me14_9_g at h
  split at h
  · split at h
    · rename_i hc
      simp only [Bool.and_eq_true, decide_eq_true_eq] at hc
      obtain ⟨⟨⟨⟨⟨⟨⟨⟨⟨⟨rfl, rfl⟩, rfl⟩, rfl⟩, rfl⟩, rfl⟩, rfl⟩, rfl⟩, rfl⟩, rfl⟩, rfl⟩ := hc
      simp only [Option.some.injEq] at h
      subst h
      refine ⟨[.ag [.v true (.int .i64 (2)), .v true (.int .i64 (1)), .v true (.int .i64 (0)), .v true (.int .i64 (0)), .v true (.int .i64 (50)), .v true (.int .i64 (0)), .v true (.int .i64 (100)), .v true (.int .i64 (0)), .v true (.int .i64 (0)), .v true (.int .i64 (4))], .one (.v true (.int .i64 (100)))], rfl, fun fr w us h => h, fun r hr => ?_⟩
      rw [me14_9_tree]
      exact hr
    · cases h
  · cases h
noncomputable def puW_S60 : Sums := addS 14 me14_9_g puW_S59
theorem puW_S60_ok : SumOK Try.prog puW_S60 := addS_ok (me14_9_ok) (puW_S59_ok)
set_option maxRecDepth 100000 in
theorem me14_10_tree : evalF Try.prog puW_S60 (opens [45]) L0 9 14 [.ag [.v true (.int .i64 (2)), .v true (.int .i64 (1)), .v true (.int .i64 (0)), .v true (.int .i64 (0)), .v true (.int .i64 (50)), .v true (.int .i64 (0)), .v true (.int .i64 (100)), .v true (.int .i64 (0)), .v true (.int .i64 (0)), .v true (.int .i64 (3))], .one (.v true (.int .i64 (100)))] = .ret (.tup [(true, [.v true (.int .i64 (2)), .v true (.int .i64 (1)), .v true (.int .i64 (0)), .v true (.int .i64 (0)), .v true (.int .i64 (50)), .v true (.int .i64 (0)), .v true (.int .i64 (100)), .v true (.int .i64 (0)), .v true (.int .i64 (0)), .v true (.int .i64 (2))]), (true, [.v true (.int .i64 (0)), .v true (.int .i64 (0)), .v true (.int .i64 (0)), .v true (.int .i64 (0))])]) := by kernel_rfl
def me14_10_g : List AV → Option (Tr AV)
  | [.ag [.v _ (.int .i64 a0), .v _ (.int .i64 a1), .v _ (.int .i64 a2), .v _ (.int .i64 a3), .v _ (.int .i64 a4), .v _ (.int .i64 a5), .v _ (.int .i64 a6), .v _ (.int .i64 a7), .v _ (.int .i64 a8), .v _ (.int .i64 a9)], .one (.v _ (.int .i64 a10))] =>
    match decide (a0 = (2 : Int)) && decide (a1 = (1 : Int)) && decide (a2 = (0 : Int)) && decide (a3 = (0 : Int)) && decide (a4 = (50 : Int)) && decide (a5 = (0 : Int)) && decide (a6 = (100 : Int)) && decide (a7 = (0 : Int)) && decide (a8 = (0 : Int)) && decide (a9 = (3 : Int)) && decide (a10 = (100 : Int)) with
    | true => some (.ret (.tup [(true, [.v true (.int .i64 (2)), .v true (.int .i64 (1)), .v true (.int .i64 (0)), .v true (.int .i64 (0)), .v true (.int .i64 (50)), .v true (.int .i64 (0)), .v true (.int .i64 (100)), .v true (.int .i64 (0)), .v true (.int .i64 (0)), .v true (.int .i64 (2))]), (true, [.v true (.int .i64 (0)), .v true (.int .i64 (0)), .v true (.int .i64 (0)), .v true (.int .i64 (0))])]))
    | false => none
  | _ => none
set_option maxHeartbeats 4000000 in
theorem me14_10_ok : FunOK Try.prog 14 me14_10_g := by
  refine fun_ok (by kernel_rfl) (puW_S60_ok) (L0_ok _) 9 (On := (opens [45])) (fun args t h => ?_)
  unfold me14_10_g at h
  split at h
  · split at h
    · rename_i hc
      simp only [Bool.and_eq_true, decide_eq_true_eq] at hc
      obtain ⟨⟨⟨⟨⟨⟨⟨⟨⟨⟨rfl, rfl⟩, rfl⟩, rfl⟩, rfl⟩, rfl⟩, rfl⟩, rfl⟩, rfl⟩, rfl⟩, rfl⟩ := hc
      simp only [Option.some.injEq] at h
      subst h
      refine ⟨[.ag [.v true (.int .i64 (2)), .v true (.int .i64 (1)), .v true (.int .i64 (0)), .v true (.int .i64 (0)), .v true (.int .i64 (50)), .v true (.int .i64 (0)), .v true (.int .i64 (100)), .v true (.int .i64 (0)), .v true (.int .i64 (0)), .v true (.int .i64 (3))], .one (.v true (.int .i64 (100)))], rfl, fun fr w us h => h, fun r hr => ?_⟩
      rw [me14_10_tree]
      exact hr
    · cases h
  · cases h
noncomputable def puW_S61 : Sums := addS 14 me14_10_g puW_S60
theorem puW_S61_ok : SumOK Try.prog puW_S61 := addS_ok (me14_10_ok) (puW_S60_ok)
set_option maxRecDepth 100000 in
theorem me14_11_tree : evalF Try.prog puW_S61 (opens [45]) L0 9 14 [.ag [.v true (.int .i64 (2)), .v true (.int .i64 (1)), .v true (.int .i64 (0)), .v true (.int .i64 (0)), .v true (.int .i64 (50)), .v true (.int .i64 (0)), .v true (.int .i64 (100)), .v true (.int .i64 (0)), .v true (.int .i64 (0)), .v true (.int .i64 (2))], .one (.v true (.int .i64 (100)))] = .ret (.tup [(true, [.v true (.int .i64 (2)), .v true (.int .i64 (1)), .v true (.int .i64 (0)), .v true (.int .i64 (0)), .v true (.int .i64 (50)), .v true (.int .i64 (0)), .v true (.int .i64 (100)), .v true (.int .i64 (0)), .v true (.int .i64 (0)), .v true (.int .i64 (1))]), (true, [.v true (.int .i64 (0)), .v true (.int .i64 (0)), .v true (.int .i64 (0)), .v true (.int .i64 (0))])]) := by kernel_rfl
def me14_11_g : List AV → Option (Tr AV)
  | [.ag [.v _ (.int .i64 a0), .v _ (.int .i64 a1), .v _ (.int .i64 a2), .v _ (.int .i64 a3), .v _ (.int .i64 a4), .v _ (.int .i64 a5), .v _ (.int .i64 a6), .v _ (.int .i64 a7), .v _ (.int .i64 a8), .v _ (.int .i64 a9)], .one (.v _ (.int .i64 a10))] =>
    match decide (a0 = (2 : Int)) && decide (a1 = (1 : Int)) && decide (a2 = (0 : Int)) && decide (a3 = (0 : Int)) && decide (a4 = (50 : Int)) && decide (a5 = (0 : Int)) && decide (a6 = (100 : Int)) && decide (a7 = (0 : Int)) && decide (a8 = (0 : Int)) && decide (a9 = (2 : Int)) && decide (a10 = (100 : Int)) with
    | true => some (.ret (.tup [(true, [.v true (.int .i64 (2)), .v true (.int .i64 (1)), .v true (.int .i64 (0)), .v true (.int .i64 (0)), .v true (.int .i64 (50)), .v true (.int .i64 (0)), .v true (.int .i64 (100)), .v true (.int .i64 (0)), .v true (.int .i64 (0)), .v true (.int .i64 (1))]), (true, [.v true (.int .i64 (0)), .v true (.int .i64 (0)), .v true (.int .i64 (0)), .v true (.int .i64 (0))])]))
    | false => none
  | _ => none
set_option maxHeartbeats 4000000 in
theorem me14_11_ok : FunOK Try.prog 14 me14_11_g := by
  refine fun_ok (by kernel_rfl) (puW_S61_ok) (L0_ok _) 9 (On := (opens [45])) (fun args t h => ?_)
  unfold me14_11_g at h
  split at h
  · split at h
    · rename_i hc
      simp only [Bool.and_eq_true, decide_eq_true_eq] at hc
      obtain ⟨⟨⟨⟨⟨⟨⟨⟨⟨⟨rfl, rfl⟩, rfl⟩, rfl⟩, rfl⟩, rfl⟩, rfl⟩, rfl⟩, rfl⟩, rfl⟩, rfl⟩ := hc
      simp only [Option.some.injEq] at h
      subst h
      refine ⟨[.ag [.v true (.int .i64 (2)), .v true (.int .i64 (1)), .v true (.int .i64 (0)), .v true (.int .i64 (0)), .v true (.int .i64 (50)), .v true (.int .i64 (0)), .v true (.int .i64 (100)), .v true (.int .i64 (0)), .v true (.int .i64 (0)), .v true (.int .i64 (2))], .one (.v true (.int .i64 (100)))], rfl, fun fr w us h => h, fun r hr => ?_⟩
      rw [me14_11_tree]
      exact hr
    · cases h
  · cases h
noncomputable def puW_S62 : Sums := addS 14 me14_11_g puW_S61
theorem puW_S62_ok : SumOK Try.prog puW_S62 := addS_ok (me14_11_ok) (puW_S61_ok)
set_option maxRecDepth 100000 in
theorem me14_12_tree : evalF Try.prog puW_S62 (opens [45]) L0 9 14 [.ag [.v true (.int .i64 (2)), .v true (.int .i64 (1)), .v true (.int .i64 (0)), .v true (.int .i64 (0)), .v true (.int .i64 (50)), .v true (.int .i64 (0)), .v true (.int .i64 (100)), .v true (.int .i64 (0)), .v true (.int .i64 (0)), .v true (.int .i64 (1))], .one (.v true (.int .i64 (100)))] = .ret (.tup [(true, [.v true (.int .i64 (2)), .v true (.int .i64 (1)), .v true (.int .i64 (0)), .v true (.int .i64 (0)), .v true (.int .i64 (50)), .v true (.int .i64 (0)), .v true (.int .i64 (100)), .v true (.int .i64 (0)), .v true (.int .i64 (1)), .v true (.int .i64 (10))]), (true, [.v true (.int .i64 (1)), .v true (.int .i64 (1)), .v true (.int .i64 (0)), .v true (.int .i64 (0))])]) := by kernel_rfl
def me14_12_g : List AV → Option (Tr AV)
  | [.ag [.v _ (.int .i64 a0), .v _ (.int .i64 a1), .v _ (.int .i64 a2), .v _ (.int .i64 a3), .v _ (.int .i64 a4), .v _ (.int .i64 a5), .v _ (.int .i64 a6), .v _ (.int .i64 a7), .v _ (.int .i64 a8), .v _ (.int .i64 a9)], .one (.v _ (.int .i64 a10))] =>
    match decide (a0 = (2 : Int)) && decide (a1 = (1 : Int)) && decide (a2 = (0 : Int)) && decide (a3 = (0 : Int)) && decide (a4 = (50 : Int)) && decide (a5 = (0 : Int)) && decide (a6 = (100 : Int)) && decide (a7 = (0 : Int)) && decide (a8 = (0 : Int)) && decide (a9 = (1 : Int)) && decide (a10 = (100 : Int)) with
    | true => some (.ret (.tup [(true, [.v true (.int .i64 (2)), .v true (.int .i64 (1)), .v true (.int .i64 (0)), .v true (.int .i64 (0)), .v true (.int .i64 (50)), .v true (.int .i64 (0)), .v true (.int .i64 (100)), .v true (.int .i64 (0)), .v true (.int .i64 (1)), .v true (.int .i64 (10))]), (true, [.v true (.int .i64 (1)), .v true (.int .i64 (1)), .v true (.int .i64 (0)), .v true (.int .i64 (0))])]))
    | false => none
  | _ => none
set_option maxHeartbeats 4000000 in
theorem me14_12_ok : FunOK Try.prog 14 me14_12_g := by
  refine fun_ok (by kernel_rfl) (puW_S62_ok) (L0_ok _) 9 (On := (opens [45])) (fun args t h => ?_)
  unfold me14_12_g at h
  split at h
  · split at h
    · rename_i hc
      simp only [Bool.and_eq_true, decide_eq_true_eq] at hc
      obtain ⟨⟨⟨⟨⟨⟨⟨⟨⟨⟨rfl, rfl⟩, rfl⟩, rfl⟩, rfl⟩, rfl⟩, rfl⟩, rfl⟩, rfl⟩, rfl⟩, rfl⟩ := hc
      simp only [Option.some.injEq] at h
      subst h
      refine ⟨[.ag [.v true (.int .i64 (2)), .v true (.int .i64 (1)), .v true (.int .i64 (0)), .v true (.int .i64 (0)), .v true (.int .i64 (50)), .v true (.int .i64 (0)), .v true (.int .i64 (100)), .v true (.int .i64 (0)), .v true (.int .i64 (0)), .v true (.int .i64 (1))], .one (.v true (.int .i64 (100)))], rfl, fun fr w us h => h, fun r hr => ?_⟩
      rw [me14_12_tree]
      exact hr
    · cases h
  · cases h
noncomputable def puW_S63 : Sums := addS 14 me14_12_g puW_S62
theorem puW_S63_ok : SumOK Try.prog puW_S63 := addS_ok (me14_12_ok) (puW_S62_ok)
set_option maxRecDepth 100000 in
theorem me14_13_tree : evalF Try.prog puW_S63 (opens [45]) L0 9 14 [.ag [.v true (.int .i64 (2)), .v true (.int .i64 (1)), .v true (.int .i64 (0)), .v true (.int .i64 (0)), .v true (.int .i64 (50)), .v true (.int .i64 (0)), .v true (.int .i64 (100)), .v true (.int .i64 (0)), .v true (.int .i64 (1)), .v true (.int .i64 (10))], .one (.v true (.int .i64 (100)))] = .ret (.tup [(true, [.v true (.int .i64 (2)), .v true (.int .i64 (1)), .v true (.int .i64 (0)), .v true (.int .i64 (0)), .v true (.int .i64 (50)), .v true (.int .i64 (0)), .v true (.int .i64 (100)), .v true (.int .i64 (0)), .v true (.int .i64 (1)), .v true (.int .i64 (9))]), (true, [.v true (.int .i64 (0)), .v true (.int .i64 (0)), .v true (.int .i64 (0)), .v true (.int .i64 (0))])]) := by kernel_rfl
def me14_13_g : List AV → Option (Tr AV)
  | [.ag [.v _ (.int .i64 a0), .v _ (.int .i64 a1), .v _ (.int .i64 a2), .v _ (.int .i64 a3), .v _ (.int .i64 a4), .v _ (.int .i64 a5), .v _ (.int .i64 a6), .v _ (.int .i64 a7), .v _ (.int .i64 a8), .v _ (.int .i64 a9)], .one (.v _ (.int .i64 a10))] =>
    match decide (a0 = (2 : Int)) && decide (a1 = (1 : Int)) && decide (a2 = (0 : Int)) && decide (a3 = (0 : Int)) && decide (a4 = (50 : Int)) && decide (a5 = (0 : Int)) && decide (a6 = (100 : Int)) && decide (a7 = (0 : Int)) && decide (a8 = (1 : Int)) && decide (a9 = (10 : Int)) && decide (a10 = (100 : Int)) with
    | true => some (.ret (.tup [(true, [.v true (.int .i64 (2)), .v true (.int .i64 (1)), .v true (.int .i64 (0)), .v true (.int .i64 (0)), .v true (.int .i64 (50)), .v true (.int .i64 (0)), .v true (.int .i64 (100)), .v true (.int .i64 (0)), .v true (.int .i64 (1)), .v true (.int .i64 (9))]), (true, [.v true (.int .i64 (0)), .v true (.int .i64 (0)), .v true (.int .i64 (0)), .v true (.int .i64 (0))])]))
    | false => none
  | _ => none
set_option maxHeartbeats 4000000 in
theorem me14_13_ok : FunOK Try.prog 14 me14_13_g := by
  refine fun_ok (by kernel_rfl) (puW_S63_ok) (L0_ok _) 9 (On := (opens [45])) (fun args t h => ?_)
  unfold me14_13_g at h
  split at h
  · split at h
    · rename_i hc
      simp only [Bool.and_eq_true, decide_eq_true_eq] at hc
      obtain ⟨⟨⟨⟨⟨⟨⟨⟨⟨⟨rfl, rfl⟩, rfl⟩, rfl⟩, rfl⟩, rfl⟩, rfl⟩, rfl⟩, rfl⟩, rfl⟩, rfl⟩ := hc
      simp only [Option.some.injEq] at h
      subst h
      refine ⟨[.ag [.v true (.int .i64 (2)), .v true (.int .i64 (1)), .v true (.int .i64 (0)), .v true (.int .i64 (0)), .v true (.int .i64 (50)), .v true (.int .i64 (0)), .v true (.int .i64 (100)), .v true (.int .i64 (0)), .v true (.int .i64 (1)), .v true (.int .i64 (10))], .one (.v true (.int .i64 (100)))], rfl, fun fr w us h => h, fun r hr => ?_⟩
      rw [me14_13_tree]
      exact hr
    · cases h
  · cases h
noncomputable def puW_S64 : Sums := addS 14 me14_13_g puW_S63
theorem puW_S64_ok : SumOK Try.prog puW_S64 := addS_ok (me14_13_ok) (puW_S63_ok)
set_option maxRecDepth 100000 in
theorem me14_14_tree : evalF Try.prog puW_S64 (opens [45]) L0 9 14 [.ag [.v true (.int .i64 (2)), .v true (.int .i64 (1)), .v true (.int .i64 (0)), .v true (.int .i64 (0)), .v true (.int .i64 (50)), .v true (.int .i64 (0)), .v true (.int .i64 (100)), .v true (.int .i64 (0)), .v true (.int .i64 (1)), .v true (.int .i64 (9))], .one (.v true (.int .i64 (100)))] = .ret (.tup [(true, [.v true (.int .i64 (2)), .v true (.int .i64 (1)), .v true (.int .i64 (0)), .v true (.int .i64 (0)), .v true (.int .i64 (50)), .v true (.int .i64 (0)), .v true (.int .i64 (100)), .v true (.int .i64 (0)), .v true (.int .i64 (1)), .v true (.int .i64 (8))]), (true, [.v true (.int .i64 (0)), .v true (.int .i64 (0)), .v true (.int .i64 (0)), .v true (.int .i64 (0))])]) := by kernel_rfl
def me14_14_g : List AV → Option (Tr AV)
  | [.ag [.v _ (.int .i64 a0), .v _ (.int .i64 a1), .v _ (.int .i64 a2), .v _ (.int .i64 a3), .v _ (.int .i64 a4), .v _ (.int .i64 a5), .v _ (.int .i64 a6), .v _ (.int .i64 a7), .v _ (.int .i64 a8), .v _ (.int .i64 a9)], .one (.v _ (.int .i64 a10))] =>
    match decide (a0 = (2 : Int)) && decide (a1 = (1 : Int)) && decide (a2 = (0 : Int)) && decide (a3 = (0 : Int)) && decide (a4 = (50 : Int)) && decide (a5 = (0 : Int)) && decide (a6 = (100 : Int)) && decide (a7 = (0 : Int)) && decide (a8 = (1 : Int)) && decide (a9 = (9 : Int)) && decide (a10 = (100 : Int)) with
    | true => some (.ret (.tup [(true, [.v true (.int .i64 (2)), .v true (.int .i64 (1)), .v true (.int .i64 (0)), .v true (.int .i64 (0)), .v true (.int .i64 (50)), .v true (.int .i64 (0)), .v true (.int .i64 (100)), .v true (.int .i64 (0)), .v true (.int .i64 (1)), .v true (.int .i64 (8))]), (true, [.v true (.int .i64 (0)), .v true (.int .i64 (0)), .v true (.int .i64 (0)), .v true (.int .i64 (0))])]))
    | false => none
  | _ => none
set_option maxHeartbeats 4000000 in
theorem me14_14_ok : FunOK Try.prog 14 me14_14_g := by
  refine fun_ok (by kernel_rfl) (puW_S64_ok) (L0_ok _) 9 (On := (opens [45])) (fun args t h => ?_)
  unfold me14_14_g at h
  split at h
  · split at h
    · rename_i hc
      simp only [Bool.and_eq_true, decide_eq_true_eq] at hc
      obtain ⟨⟨⟨⟨⟨⟨⟨⟨⟨⟨rfl, rfl⟩, rfl⟩, rfl⟩, rfl⟩, rfl⟩, rfl⟩, rfl⟩, rfl⟩, rfl⟩, rfl⟩ := hc
      simp only [Option.some.injEq] at h
      subst h
      refine ⟨[.ag [.v true (.int .i64 (2)), .v true (.int .i64 (1)), .v true (.int .i64 (0)), .v true (.int .i64 (0)), .v true (.int .i64 (50)), .v true (.int .i64 (0)), .v true (.int .i64 (100)), .v true (.int .i64 (0)), .v true (.int .i64 (1)), .v true (.int .i64 (9))], .one (.v true (.int .i64 (100)))], rfl, fun fr w us h => h, fun r hr => ?_⟩
      rw [me14_14_tree]
      exact hr
    · cases h
  · cases h
noncomputable def puW_S65 : Sums := addS 14 me14_14_g puW_S64
theorem puW_S65_ok : SumOK Try.prog puW_S65 := addS_ok (me14_14_ok) (puW_S64_ok)
set_option maxRecDepth 100000 in
theorem me14_15_tree : evalF Try.prog puW_S65 (opens [45]) L0 9 14 [.ag [.v true (.int .i64 (2)), .v true (.int .i64 (1)), .v true (.int .i64 (0)), .v true (.int .i64 (0)), .v true (.int .i64 (50)), .v true (.int .i64 (0)), .v true (.int .i64 (100)), .v true (.int .i64 (0)), .v true (.int .i64 (1)), .v true (.int .i64 (8))], .one (.v true (.int .i64 (100)))] = .ret (.tup [(true, [.v true (.int .i64 (2)), .v true (.int .i64 (1)), .v true (.int .i64 (0)), .v true (.int .i64 (0)), .v true (.int .i64 (50)), .v true (.int .i64 (0)), .v true (.int .i64 (100)), .v true (.int .i64 (0)), .v true (.int .i64 (1)), .v true (.int .i64 (7))]), (true, [.v true (.int .i64 (0)), .v true (.int .i64 (0)), .v true (.int .i64 (0)), .v true (.int .i64 (0))])]) := by kernel_rfl
def me14_15_g : List AV → Option (Tr AV)
  | [.ag [.v _ (.int .i64 a0), .v _ (.int .i64 a1), .v _ (.int .i64 a2), .v _ (.int .i64 a3), .v _ (.int .i64 a4), .v _ (.int .i64 a5), .v _ (.int .i64 a6), .v _ (.int .i64 a7), .v _ (.int .i64 a8), .v _ (.int .i64 a9)], .one (.v _ (.int .i64 a10))] =>
    match decide (a0 = (2 : Int)) && decide (a1 = (1 : Int)) && decide (a2 = (0 : Int)) && decide (a3 = (0 : Int)) && decide (a4 = (50 : Int)) && decide (a5 = (0 : Int)) && decide (a6 = (100 : Int)) && decide (a7 = (0 : Int)) && decide (a8 = (1 : Int)) && decide (a9 = (8 : Int)) && decide (a10 = (100 : Int)) with
    | true => some (.ret (.tup [(true, [.v true (.int .i64 (2)), .v true (.int .i64 (1)), .v true (.int .i64 (0)), .v true (.int .i64 (0)), .v true (.int .i64 (50)), .v true (.int .i64 (0)), .v true (.int .i64 (100)), .v true (.int .i64 (0)), .v true (.int .i64 (1)), .v true (.int .i64 (7))]), (true, [.v true (.int .i64 (0)), .v true (.int .i64 (0)), .v true (.int .i64 (0)), .v true (.int .i64 (0))])]))
    | false => none
  | _ => none
set_option maxHeartbeats 4000000 in
theorem me14_15_ok : FunOK Try.prog 14 me14_15_g := by
  refine fun_ok (by kernel_rfl) (puW_S65_ok) (L0_ok _) 9 (On := (opens [45])) (fun args t h => ?_)
  unfold me14_15_g at h
  split at h
  · split at h
    · rename_i hc
      simp only [Bool.and_eq_true, decide_eq_true_eq] at hc
      obtain ⟨⟨⟨⟨⟨⟨⟨⟨⟨⟨rfl, rfl⟩, rfl⟩, rfl⟩, rfl⟩, rfl⟩, rfl⟩, rfl⟩, rfl⟩, rfl⟩, rfl⟩ := hc
      simp only [Option.some.injEq] at h
      subst h
      refine ⟨[.ag [.v true (.int .i64 (2)), .v true (.int .i64 (1)), .v true (.int .i64 (0)), .v true (.int .i64 (0)), .v true (.int .i64 (50)), .v true (.int .i64 (0)), .v true (.int .i64 (100)), .v true (.int .i64 (0)), .v true (.int .i64 (1)), .v true (.int .i64 (8))], .one (.v true (.int .i64 (100)))], rfl, fun fr w us h => h, fun r hr => ?_⟩
      rw [me14_15_tree]
      exact hr
    · cases h
  · cases h
noncomputable def puW_S66 : Sums := addS 14 me14_15_g puW_S65
theorem puW_S66_ok : SumOK Try.prog puW_S66 := addS_ok (me14_15_ok) (puW_S65_ok)
set_option maxRecDepth 100000 in
theorem me14_16_tree : evalF Try.prog puW_S66 (opens [45]) L0 9 14 [.ag [.v true (.int .i64 (2)), .v true (.int .i64 (1)), .v true (.int .i64 (0)), .v true (.int .i64 (0)), .v true (.int .i64 (50)), .v true (.int .i64 (0)), .v true (.int .i64 (100)), .v true (.int .i64 (0)), .v true (.int .i64 (1)), .v true (.int .i64 (7))], .one (.v true (.int .i64 (100)))] = .ret (.tup [(true, [.v true (.int .i64 (2)), .v true (.int .i64 (1)), .v true (.int .i64 (0)), .v true (.int .i64 (0)), .v true (.int .i64 (50)), .v true (.int .i64 (0)), .v true (.int .i64 (100)), .v true (.int .i64 (0)), .v true (.int .i64 (1)), .v true (.int .i64 (6))]), (true, [.v true (.int .i64 (0)), .v true (.int .i64 (0)), .v true (.int .i64 (0)), .v true (.int .i64 (0))])]) := by kernel_rfl
def me14_16_g : List AV → Option (Tr AV)
  | [.ag [.v _ (.int .i64 a0), .v _ (.int .i64 a1), .v _ (.int .i64 a2), .v _ (.int .i64 a3), .v _ (.int .i64 a4), .v _ (.int .i64 a5), .v _ (.int .i64 a6), .v _ (.int .i64 a7), .v _ (.int .i64 a8), .v _ (.int .i64 a9)], .one (.v _ (.int .i64 a10))] =>
    match decide (a0 = (2 : Int)) && decide (a1 = (1 : Int)) && decide (a2 = (0 : Int)) && decide (a3 = (0 : Int)) && decide (a4 = (50 : Int)) && decide (a5 = (0 : Int)) && decide (a6 = (100 : Int)) && decide (a7 = (0 : Int)) && decide (a8 = (1 : Int)) && decide (a9 = (7 : Int)) && decide (a10 = (100 : Int)) with
    | true => some (.ret (.tup [(true, [.v true (.int .i64 (2)), .v true (.int .i64 (1)), .v true (.int .i64 (0)), .v true (.int .i64 (0)), .v true (.int .i64 (50)), .v true (.int .i64 (0)), .v true (.int .i64 (100)), .v true (.int .i64 (0)), .v true (.int .i64 (1)), .v true (.int .i64 (6))]), (true, [.v true (.int .i64 (0)), .v true (.int .i64 (0)), .v true (.int .i64 (0)), .v true (.int .i64 (0))])]))
    | false => none
  | _ => none
set_option maxHeartbeats 4000000 in
theorem me14_16_ok : FunOK Try.prog 14 me14_16_g := by
  refine fun_ok (by kernel_rfl) (puW_S66_ok) (L0_ok _) 9 (On := (opens [45])) (fun args t h => ?_)
  unfold me14_16_g at h
  split at h
  · split at h
    · rename_i hc
      simp only [Bool.and_eq_true, decide_eq_true_eq] at hc
      obtain ⟨⟨⟨⟨⟨⟨⟨⟨⟨⟨rfl, rfl⟩, rfl⟩, rfl⟩, rfl⟩, rfl⟩, rfl⟩, rfl⟩, rfl⟩, rfl⟩, rfl⟩ := hc
      simp only [Option.some.injEq] at h
      subst h
      refine ⟨[.ag [.v true (.int .i64 (2)), .v true (.int .i64 (1)), .v true (.int .i64 (0)), .v true (.int .i64 (0)), .v true (.int .i64 (50)), .v true (.int .i64 (0)), .v true (.int .i64 (100)), .v true (.int .i64 (0)), .v true (.int .i64 (1)), .v true (.int .i64 (7))], .one (.v true (.int .i64 (100)))], rfl, fun fr w us h => h, fun r hr => ?_⟩
      rw [me14_16_tree]
      exact hr
    · cases h
  · cases h
noncomputable def puW_S67 : Sums := addS 14 me14_16_g puW_S66
theorem puW_S67_ok : SumOK Try.prog puW_S67 := addS_ok (me14_16_ok) (puW_S66_ok)
set_option maxRecDepth 100000 in
theorem me14_17_tree : evalF Try.prog puW_S67 (opens [45]) L0 9 14 [.ag [.v true (.int .i64 (2)), .v true (.int .i64 (1)), .v true (.int .i64 (0)), .v true (.int .i64 (0)), .v true (.int .i64 (50)), .v true (.int .i64 (0)), .v true (.int .i64 (100)), .v true (.int .i64 (0)), .v true (.int .i64 (1)), .v true (.int .i64 (6))], .one (.v true (.int .i64 (100)))] = .ret (.tup [(true, [.v true (.int .i64 (2)), .v true (.int .i64 (1)), .v true (.int .i64 (0)), .v true (.int .i64 (0)), .v true (.int .i64 (50)), .v true (.int .i64 (0)), .v true (.int .i64 (100)), .v true (.int .i64 (0)), .v true (.int .i64 (1)), .v true (.int .i64 (5))]), (true, [.v true (.int .i64 (0)), .v true (.int .i64 (0)), .v true (.int .i64 (0)), .v true (.int .i64 (0))])]) := by kernel_rfl
def me14_17_g : List AV → Option (Tr AV)
  | [.ag [.v _ (.int .i64 a0), .v _ (.int .i64 a1), .v _ (.int .i64 a2), .v _ (.int .i64 a3), .v _ (.int .i64 a4), .v _ (.int .i64 a5), .v _ (.int .i64 a6), .v _ (.int .i64 a7), .v _ (.int .i64 a8), .v _ (.int .i64 a9)], .one (.v _ (.int .i64 a10))] =>
    match decide (a0 = (2 : Int)) && decide (a1 = (1 : Int)) && decide (a2 = (0 : Int)) && decide (a3 = (0 : Int)) && decide (a4 = (50 : Int)) && decide (a5 = (0 : Int)) && decide (a6 = (100 : Int)) && decide (a7 = (0 : Int)) && decide (a8 = (1 : Int)) && decide (a9 = (6 : Int)) && decide (a10 = (100 : Int)) with
    | true => some (.ret (.tup [(true, [.v true (.int .i64 (2)), .v true (.int .i64 (1)), .v true (.int .i64 (0)), .v true (.int .i64 (0)), .v true (.int .i64 (50)), .v true (.int .i64 (0)), .v true (.int .i64 (100)), .v true (.int .i64 (0)), .v true (.int .i64 (1)), .v true (.int .i64 (5))]), (true, [.v true (.int .i64 (0)), .v true (.int .i64 (0)), .v true (.int .i64 (0)), .v true (.int .i64 (0))])]))
    | false => none
  | _ => none
set_option maxHeartbeats 4000000 in
theorem me14_17_ok : FunOK Try.prog 14 me14_17_g := by
  refine fun_ok (by kernel_rfl) (puW_S67_ok) (L0_ok _) 9 (On := (opens [45])) (fun args t h => ?_)
  unfold me14_17_g at h
  split at h
  · split at h
    · rename_i hc
      simp only [Bool.and_eq_true, decide_eq_true_eq] at hc
      obtain ⟨⟨⟨⟨⟨⟨⟨⟨⟨⟨rfl, rfl⟩, rfl⟩, rfl⟩, rfl⟩, rfl⟩, rfl⟩, rfl⟩, rfl⟩, rfl⟩, rfl⟩ := hc
      simp only [Option.some.injEq] at h
      subst h
      refine ⟨[.ag [.v true (.int .i64 (2)), .v true (.int .i64 (1)), .v true (.int .i64 (0)), .v true (.int .i64 (0)), .v true (.int .i64 (50)), .v true (.int .i64 (0)), .v true (.int .i64 (100)), .v true (.int .i64 (0)), .v true (.int .i64 (1)), .v true (.int .i64 (6))], .one (.v true (.int .i64 (100)))], rfl, fun fr w us h => h, fun r hr => ?_⟩
      rw [me14_17_tree]
      exact hr
    · cases h
  · cases h
noncomputable def puW_S68 : Sums := addS 14 me14_17_g puW_S67
theorem puW_S68_ok : SumOK Try.prog puW_S68 := addS_ok (me14_17_ok) (puW_S67_ok)
set_option maxRecDepth 100000 in
theorem me14_18_tree : evalF Try.prog puW_S68 (opens [45]) L0 9 14 [.ag [.v true (.int .i64 (2)), .v true (.int .i64 (1)), .v true (.int .i64 (0)), .v true (.int .i64 (0)), .v true (.int .i64 (50)), .v true (.int .i64 (0)), .v true (.int .i64 (100)), .v true (.int .i64 (0)), .v true (.int .i64 (1)), .v true (.int .i64 (5))], .one (.v true (.int .i64 (100)))] = .ret (.tup [(true, [.v true (.int .i64 (2)), .v true (.int .i64 (1)), .v true (.int .i64 (0)), .v true (.int .i64 (0)), .v true (.int .i64 (50)), .v true (.int .i64 (0)), .v true (.int .i64 (100)), .v true (.int .i64 (0)), .v true (.int .i64 (1)), .v true (.int .i64 (4))]), (true, [.v true (.int .i64 (0)), .v true (.int .i64 (0)), .v true (.int .i64 (0)), .v true (.int .i64 (0))])]) := by kernel_rfl
def me14_18_g : List AV → Option (Tr AV)
  | [.ag [.v _ (.int .i64 a0), .v _ (.int .i64 a1), .v _ (.int .i64 a2), .v _ (.int .i64 a3), .v _ (.int .i64 a4), .v _ (.int .i64 a5), .v _ (.int .i64 a6), .v _ (.int .i64 a7), .v _ (.int .i64 a8), .v _ (.int .i64 a9)], .one (.v _ (.int .i64 a10))] =>
    match decide (a0 = (2 : Int)) && decide (a1 = (1 : Int)) && decide (a2 = (0 : Int)) && decide (a3 = (0 : Int)) && decide (a4 = (50 : Int)) && decide (a5 = (0 : Int)) && decide (a6 = (100 : Int)) && decide (a7 = (0 : Int)) && decide (a8 = (1 : Int)) && decide (a9 = (5 : Int)) && decide (a10 = (100 : Int)) with
    | true => some (.ret (.tup [(true, [.v true (.int .i64 (2)), .v true (.int .i64 (1)), .v true (.int .i64 (0)), .v true (.int .i64 (0)), .v true (.int .i64 (50)), .v true (.int .i64 (0)), .v true (.int .i64 (100)), .v true (.int .i64 (0)), .v true (.int .i64 (1)), .v true (.int .i64 (4))]), (true, [.v true (.int .i64 (0)), .v true (.int .i64 (0)), .v true (.int .i64 (0)), .v true (.int .i64 (0))])]))
    | false => none
  | _ => none
set_option maxHeartbeats 4000000 in
theorem me14_18_ok : FunOK Try.prog 14 me14_18_g := by
  refine fun_ok (by kernel_rfl) (puW_S68_ok) (L0_ok _) 9 (On := (opens [45])) (fun args t h => ?_)
  unfold me14_18_g at h
  split at h
  · split at h
    · rename_i hc
      simp only [Bool.and_eq_true, decide_eq_true_eq] at hc
      obtain ⟨⟨⟨⟨⟨⟨⟨⟨⟨⟨rfl, rfl⟩, rfl⟩, rfl⟩, rfl⟩, rfl⟩, rfl⟩, rfl⟩, rfl⟩, rfl⟩, rfl⟩ := hc
      simp only [Option.some.injEq] at h
      subst h
      refine ⟨[.ag [.v true (.int .i64 (2)), .v true (.int .i64 (1)), .v true (.int .i64 (0)), .v true (.int .i64 (0)), .v true (.int .i64 (50)), .v true (.int .i64 (0)), .v true (.int .i64 (100)), .v true (.int .i64 (0)), .v true (.int .i64 (1)), .v true (.int .i64 (5))], .one (.v true (.int .i64 (100)))], rfl, fun fr w us h => h, fun r hr => ?_⟩
      rw [me14_18_tree]
      exact hr
    · cases h
  · cases h
noncomputable def puW_S69 : Sums := addS 14 me14_18_g puW_S68
theorem puW_S69_ok : SumOK Try.prog puW_S69 := addS_ok (me14_18_ok) (puW_S68_ok)
set_option maxRecDepth 100000 in
theorem me14_19_tree : evalF Try.prog puW_S69 (opens [45]) L0 9 14 [.ag [.v true (.int .i64 (2)), .v true (.int .i64 (1)), .v true (.int .i64 (0)), .v true (.int .i64 (0)), .v true (.int .i64 (50)), .v true (.int .i64 (0)), .v true (.int .i64 (100)), .v true (.int .i64 (0)), .v true (.int .i64 (1)), .v true (.int .i64 (4))], .one (.v true (.int .i64 (100)))] = .ret (.tup [(true, [.v true (.int .i64 (2)), .v true (.int .i64 (1)), .v true (.int .i64 (0)), .v true (.int .i64 (0)), .v true (.int .i64 (50)), .v true (.int .i64 (0)), .v true (.int .i64 (100)), .v true (.int .i64 (0)), .v true (.int .i64 (1)), .v true (.int .i64 (3))]), (true, [.v true (.int .i64 (0)), .v true (.int .i64 (0)), .v true (.int .i64 (0)), .v true (.int .i64 (0))])]) := by kernel_rfl
def me14_19_g : List AV → Option (Tr AV)
  | [.ag [.v _ (.int .i64 a0), .v _ (.int .i64 a1), .v _ (.int .i64 a2), .v _ (.int .i64 a3), .v _ (.int .i64 a4), .v _ (.int .i64 a5), .v _ (.int .i64 a6), .v _ (.int .i64 a7), .v _ (.int .i64 a8), .v _ (.int .i64 a9)], .one (.v _ (.int .i64 a10))] =>
    match decide (a0 = (2 : Int)) && decide (a1 = (1 : Int)) && decide (a2 = (0 : Int)) && decide (a3 = (0 : Int)) && decide (a4 = (50 : Int)) && decide (a5 = (0 : Int)) && decide (a6 = (100 : Int)) && decide (a7 = (0 : Int)) && decide (a8 = (1 : Int)) && decide (a9 = (4 : Int)) && decide (a10 = (100 : Int)) with
    | true => some (.ret (.tup [(true, [.v true (.int .i64 (2)), .v true (.int .i64 (1)), .v true (.int .i64 (0)), .v true (.int .i64 (0)), .v true (.int .i64 (50)), .v true (.int .i64 (0)), .v true (.int .i64 (100)), .v true (.int .i64 (0)), .v true (.int .i64 (1)), .v true (.int .i64 (3))]), (true, [.v true (.int .i64 (0)), .v true (.int .i64 (0)), .v true (.int .i64 (0)), .v true (.int .i64 (0))])]))
    | false => none
  | _ => none
set_option maxHeartbeats 4000000 in
theorem me14_19_ok : FunOK Try.prog 14 me14_19_g := by
  refine fun_ok (by kernel_rfl) (puW_S69_ok) (L0_ok _) 9 (On := (opens [45])) (fun args t h => ?_)
  unfold me14_19_g at h
  split at h
  · split at h
    · rename_i hc
      simp only [Bool.and_eq_true, decide_eq_true_eq] at hc
      obtain ⟨⟨⟨⟨⟨⟨⟨⟨⟨⟨rfl, rfl⟩, rfl⟩, rfl⟩, rfl⟩, rfl⟩, rfl⟩, rfl⟩, rfl⟩, rfl⟩, rfl⟩ := hc
      simp only [Option.some.injEq] at h
      subst h
      refine ⟨[.ag [.v true (.int .i64 (2)), .v true (.int .i64 (1)), .v true (.int .i64 (0)), .v true (.int .i64 (0)), .v true (.int .i64 (50)), .v true (.int .i64 (0)), .v true (.int .i64 (100)), .v true (.int .i64 (0)), .v true (.int .i64 (1)), .v true (.int .i64 (4))], .one (.v true (.int .i64 (100)))], rfl, fun fr w us h => h, fun r hr => ?_⟩
      rw [me14_19_tree]
      exact hr
    · cases h
  · cases h
noncomputable def puW_S70 : Sums := addS 14 me14_19_g puW_S69
theorem puW_S70_ok : SumOK Try.prog puW_S70 := addS_ok (me14_19_ok) (puW_S69_ok)
set_option maxRecDepth 100000 in
theorem me14_20_tree : evalF Try.prog puW_S70 (opens [45]) L0 9 14 [.ag [.v true (.int .i64 (2)), .v true (.int .i64 (1)), .v true (.int .i64 (0)), .v true (.int .i64 (0)), .v true (.int .i64 (50)), .v true (.int .i64 (0)), .v true (.int .i64 (100)), .v true (.int .i64 (0)), .v true (.int .i64 (1)), .v true (.int .i64 (3))], .one (.v true (.int .i64 (100)))] = .ret (.tup [(true, [.v true (.int .i64 (2)), .v true (.int .i64 (1)), .v true (.int .i64 (0)), .v true (.int .i64 (0)), .v true (.int .i64 (50)), .v true (.int .i64 (0)), .v true (.int .i64 (100)), .v true (.int .i64 (0)), .v true (.int .i64 (1)), .v true (.int .i64 (2))]), (true, [.v true (.int .i64 (0)), .v true (.int .i64 (0)), .v true (.int .i64 (0)), .v true (.int .i64 (0))])]) := by kernel_rfl
def me14_20_g : List AV → Option (Tr AV)
  | [.ag [.v _ (.int .i64 a0), .v _ (.int .i64 a1), .v _ (.int .i64 a2), .v _ (.int .i64 a3), .v _ (.int .i64 a4), .v _ (.int .i64 a5), .v _ (.int .i64 a6), .v _ (.int .i64 a7), .v _ (.int .i64 a8), .v _ (.int .i64 a9)], .one (.v _ (.int .i64 a10))] =>
    match decide (a0 = (2 : Int)) && decide (a1 = (1 : Int)) && decide (a2 = (0 : Int)) && decide (a3 = (0 : Int)) && decide (a4 = (50 : Int)) && decide (a5 = (0 : Int)) && decide (a6 = (100 : Int)) && decide (a7 = (0 : Int)) && decide (a8 = (1 : Int)) && decide (a9 = (3 : Int)) && decide (a10 = (100 : Int)) with
    | true => some (.ret (.tup [(true, [.v true (.int .i64 (2)), .v true (.int .i64 (1)), .v true (.int .i64 (0)), .v true (.int .i64 (0)), .v true (.int .i64 (50)), .v true (.int .i64 (0)), .v true (.int .i64 (100)), .v true (.int .i64 (0)), .v true (.int .i64 (1)), .v true (.int .i64 (2))]), (true, [.v true (.int .i64 (0)), .v true (.int .i64 (0)), .v true (.int .i64 (0)), .v true (.int .i64 (0))])]))
    | false => none
  | _ => none
set_option maxHeartbeats 4000000 in
theorem me14_20_ok : FunOK Try.prog 14 me14_20_g := by
  refine fun_ok (by kernel_rfl) (puW_S70_ok) (L0_ok _) 9 (On := (opens [45])) (fun args t h => ?_)
  unfold me14_20_g at h
  split at h
  · split at h
    · rename_i hc
      simp only [Bool.and_eq_true, decide_eq_true_eq] at hc
      obtain ⟨⟨⟨⟨⟨⟨⟨⟨⟨⟨rfl, rfl⟩, rfl⟩, rfl⟩, rfl⟩, rfl⟩, rfl⟩, rfl⟩, rfl⟩, rfl⟩, rfl⟩ := hc
      simp only [Option.some.injEq] at h
      subst h
      refine ⟨[.ag [.v true (.int .i64 (2)), .v true (.int .i64 (1)), .v true (.int .i64 (0)), .v true (.int .i64 (0)), .v true (.int .i64 (50)), .v true (.int .i64 (0)), .v true (.int .i64 (100)), .v true (.int .i64 (0)), .v true (.int .i64 (1)), .v true (.int .i64 (3))], .one (.v true (.int .i64 (100)))], rfl, fun fr w us h => h, fun r hr => ?_⟩
      rw [me14_20_tree]
      exact hr
    · cases h
  · cases h
noncomputable def puW_S71 : Sums := addS 14 me14_20_g puW_S70
theorem puW_S71_ok : SumOK Try.prog puW_S71 := addS_ok (me14_20_ok) (puW_S70_ok)
set_option maxRecDepth 100000 in
theorem me14_21_tree : evalF Try.prog puW_S71 (opens [45]) L0 9 14 [.ag [.v true (.int .i64 (2)), .v true (.int .i64 (1)), .v true (.int .i64 (0)), .v true (.int .i64 (0)), .v true (.int .i64 (50)), .v true (.int .i64 (0)), .v true (.int .i64 (100)), .v true (.int .i64 (0)), .v true (.int .i64 (1)), .v true (.int .i64 (2))], .one (.v true (.int .i64 (100)))] = .ret (.tup [(true, [.v true (.int .i64 (2)), .v true (.int .i64 (1)), .v true (.int .i64 (0)), .v true (.int .i64 (0)), .v true (.int .i64 (50)), .v true (.int .i64 (0)), .v true (.int .i64 (100)), .v true (.int .i64 (0)), .v true (.int .i64 (1)), .v true (.int .i64 (1))]), (true, [.v true (.int .i64 (0)), .v true (.int .i64 (0)), .v true (.int .i64 (0)), .v true (.int .i64 (0))])]) := by kernel_rfl
def me14_21_g : List AV → Option (Tr AV)
  | [.ag [.v _ (.int .i64 a0), .v _ (.int .i64 a1), .v _ (.int .i64 a2), .v _ (.int .i64 a3), .v _ (.int .i64 a4), .v _ (.int .i64 a5), .v _ (.int .i64 a6), .v _ (.int .i64 a7), .v _ (.int .i64 a8), .v _ (.int .i64 a9)], .one (.v _ (.int .i64 a10))] =>
    match decide (a0 = (2 : Int)) && decide (a1 = (1 : Int)) && decide (a2 = (0 : Int)) && decide (a3 = (0 : Int)) && decide (a4 = (50 : Int)) && decide (a5 = (0 : Int)) && decide (a6 = (100 : Int)) && decide (a7 = (0 : Int)) && decide (a8 = (1 : Int)) && decide (a9 = (2 : Int)) && decide (a10 = (100 : Int)) with
    | true => some (.ret (.tup [(true, [.v true (.int .i64 (2)), .v true (.int .i64 (1)), .v true (.int .i64 (0)), .v true (.int .i64 (0)), .v true (.int .i64 (50)), .v true (.int .i64 (0)), .v true (.int .i64 (100)), .v true (.int .i64 (0)), .v true (.int .i64 (1)), .v true (.int .i64 (1))]), (true, [.v true (.int .i64 (0)), .v true (.int .i64 (0)), .v true (.int .i64 (0)), .v true (.int .i64 (0))])]))
    | false => none
  | _ => none
set_option maxHeartbeats 4000000 in
theorem me14_21_ok : FunOK Try.prog 14 me14_21_g := by
  refine fun_ok (by kernel_rfl) (puW_S71_ok) (L0_ok _) 9 (On := (opens [45])) (fun args t h => ?_)
  unfold me14_21_g at h
  split at h
  · split at h
    · rename_i hc
      simp only [Bool.and_eq_true, decide_eq_true_eq] at hc
      obtain ⟨⟨⟨⟨⟨⟨⟨⟨⟨⟨rfl, rfl⟩, rfl⟩, rfl⟩, rfl⟩, rfl⟩, rfl⟩, rfl⟩, rfl⟩, rfl⟩, rfl⟩ := hc
      simp only [Option.some.injEq] at h
      subst h
      refine ⟨[.ag [.v true (.int .i64 (2)), .v true (.int .i64 (1)), .v true (.int .i64 (0)), .v true (.int .i64 (0)), .v true (.int .i64 (50)), .v true (.int .i64 (0)), .v true (.int .i64 (100)), .v true (.int .i64 (0)), .v true (.int .i64 (1)), .v true (.int .i64 (2))], .one (.v true (.int .i64 (100)))], rfl, fun fr w us h => h, fun r hr => ?_⟩
      rw [me14_21_tree]
      exact hr
    · cases h
  · cases h
noncomputable def puW_S72 : Sums := addS 14 me14_21_g puW_S71
theorem puW_S72_ok : SumOK Try.prog puW_S72 := addS_ok (me14_21_ok) (puW_S71_ok)
set_option maxRecDepth 100000 in
theorem me14_22_tree : evalF Try.prog puW_S72 (opens [45]) L0 9 14 [.ag [.v true (.int .i64 (2)), .v true (.int .i64 (1)), .v true (.int .i64 (0)), .v true (.int .i64 (0)), .v true (.int .i64 (50)), .v true (.int .i64 (0)), .v true (.int .i64 (100)), .v true (.int .i64 (0)), .v true (.int .i64 (1)), .v true (.int .i64 (1))], .one (.v true (.int .i64 (100)))] = .ret (.tup [(true, [.v true (.int .i64 (2)), .v true (.int .i64 (1)), .v true (.int .i64 (0)), .v true (.int .i64 (0)), .v true (.int .i64 (50)), .v true (.int .i64 (0)), .v true (.int .i64 (100)), .v true (.int .i64 (0)), .v true (.int .i64 (2)), .v true (.int .i64 (0))]), (true, [.v true (.int .i64 (1)), .v true (.int .i64 (0)), .v true (.int .i64 (0)), .v true (.int .i64 (0))])]) := by kernel_rfl
def me14_22_g : List AV → Option (Tr AV)
  | [.ag [.v _ (.int .i64 a0), .v _ (.int .i64 a1), .v _ (.int .i64 a2), .v _ (.int .i64 a3), .v _ (.int .i64 a4), .v _ (.int .i64 a5), .v _ (.int .i64 a6), .v _ (.int .i64 a7), .v _ (.int .i64 a8), .v _ (.int .i64 a9)], .one (.v _ (.int .i64 a10))] =>
    match decide (a0 = (2 : Int)) && decide (a1 = (1 : Int)) && decide (a2 = (0 : Int)) && decide (a3 = (0 : Int)) && decide (a4 = (50 : Int)) && decide (a5 = (0 : Int)) && decide (a6 = (100 : Int)) && decide (a7 = (0 : Int)) && decide (a8 = (1 : Int)) && decide (a9 = (1 : Int)) && decide (a10 = (100 : Int)) with
    | true => some (.ret (.tup [(true, [.v true (.int .i64 (2)), .v true (.int .i64 (1)), .v true (.int .i64 (0)), .v true (.int .i64 (0)), .v true (.int .i64 (50)), .v true (.int .i64 (0)), .v true (.int .i64 (100)), .v true (.int .i64 (0)), .v true (.int .i64 (2)), .v true (.int .i64 (0))]), (true, [.v true (.int .i64 (1)), .v true (.int .i64 (0)), .v true (.int .i64 (0)), .v true (.int .i64 (0))])]))
    | false => none
  | _ => none
set_option maxHeartbeats 4000000 in
theorem me14_22_ok : FunOK Try.prog 14 me14_22_g := by
  refine fun_ok (by kernel_rfl) (puW_S72_ok) (L0_ok _) 9 (On := (opens [45])) (fun args t h => ?_)
  unfold me14_22_g at h
  split at h
  · split at h
    · rename_i hc
      simp only [Bool.and_eq_true, decide_eq_true_eq] at hc
      obtain ⟨⟨⟨⟨⟨⟨⟨⟨⟨⟨rfl, rfl⟩, rfl⟩, rfl⟩, rfl⟩, rfl⟩, rfl⟩, rfl⟩, rfl⟩, rfl⟩, rfl⟩ := hc
      simp only [Option.some.injEq] at h
      subst h
      refine ⟨[.ag [.v true (.int .i64 (2)), .v true (.int .i64 (1)), .v true (.int .i64 (0)), .v true (.int .i64 (0)), .v true (.int .i64 (50)), .v true (.int .i64 (0)), .v true (.int .i64 (100)), .v true (.int .i64 (0)), .v true (.int .i64 (1)), .v true (.int .i64 (1))], .one (.v true (.int .i64 (100)))], rfl, fun fr w us h => h, fun r hr => ?_⟩
      rw [me14_22_tree]
      exact hr
    · cases h
  · cases h
noncomputable def puW_S73 : Sums := addS 14 me14_22_g puW_S72
theorem puW_S73_ok : SumOK Try.prog puW_S73 := addS_ok (me14_22_ok) (puW_S72_ok)
set_option maxRecDepth 100000 in
theorem aw10_tree : evalF Try.prog puW_S73 (opens [45]) L0 9 10 [] = .ret (.one (.v true (.bool true))) := by kernel_rfl
noncomputable def puW_S74 : Sums := addS 10 gTrue S0
theorem puW_S74_ok : SumOK Try.prog puW_S74 := addS_ok (gTrue_ok (by kernel_rfl) (puW_S73_ok) (L0_ok _) aw10_tree) (S0_ok _)
end Go.Proofs.Ythhfhiggacdneaa
