/-
  Layer 31: the example.
-/
import Derived.Test.YtacgchandefjgaaProg
import Derived.Test.YtacgchandefjgaaFvX
import Derived.Test.YtacgchandefjgaaFvZ
import Derived.Test.YtacgchandefjgaaAut
import Derived.Test.YtacgchandefjgaaRd
import Derived.Test.YtacgchandefjgaaPl
import Derived.Test.YtacgchandefjgaaScn
namespace Go.Proofs.Ytacgchandefjgaa
open Go
set_option maxRecDepth 100000 in
theorem mf79_0_tree : evalF Try.prog S0 (opens [81]) L0 9 79 [.one (.d true true (.prod (.int .i64) (.int .i64)) ([])), .one (.v true (.int .i64 (1)))] = .ret (.one (.d true true (.prod (.int .i64) (.int .i64)) ([]))) := by kernel_rfl
def mf79_0_g : List AV → Option (Tr AV)
  | [.one (.d _ _ (.prod (.int .i64) (.int .i64)) a0), .one (.v _ (.int .i64 a1))] =>
    match decide (a0 = ([] : (Ty.list (.prod (.int .i64) (.int .i64))).den)) && decide (a1 = (1 : Int)) with
    | true => some (.ret (.one (.d true true (.prod (.int .i64) (.int .i64)) ([]))))
    | false => none
  | _ => none
set_option maxHeartbeats 4000000 in
theorem mf79_0_ok : FunOK Try.prog 79 mf79_0_g := by
  refine fun_ok (by kernel_rfl) (S0_ok _) (L0_ok _) 9 (On := (opens [81])) (fun args t h => ?_)
  unfold mf79_0_g at h
  split at h
  · split at h
    · rename_i hc
      simp only [Bool.and_eq_true, decide_eq_true_eq] at hc
      obtain ⟨rfl, rfl⟩ := hc
      simp only [Option.some.injEq] at h
      subst h
      refine ⟨[.one (.d true true (.prod (.int .i64) (.int .i64)) ([])), .one (.v true (.int .i64 (1)))], rfl, fun fr w us h => h, fun r hr => ?_⟩
      rw [mf79_0_tree]
      exact hr
    · cases h
  · cases h
noncomputable def suW_S51 : Sums := addS 79 mf79_0_g S0
theorem suW_S51_ok : SumOK Try.prog suW_S51 := addS_ok (mf79_0_ok) (S0_ok _)
set_option maxRecDepth 100000 in
theorem mf79_1_tree : evalF Try.prog suW_S51 (opens [81]) L0 9 79 [.one (.d true true (.prod (.int .i64) (.int .i64)) ([(0, 1)])), .one (.v true (.int .i64 (1)))] = .ret (.one (.d true true (.prod (.int .i64) (.int .i64)) ([((-1), 2)]))) := by kernel_rfl
def mf79_1_g : List AV → Option (Tr AV)
  | [.one (.d _ _ (.prod (.int .i64) (.int .i64)) a0), .one (.v _ (.int .i64 a1))] =>
    match decide (a0 = ([(0, 1)] : (Ty.list (.prod (.int .i64) (.int .i64))).den)) && decide (a1 = (1 : Int)) with
    | true => some (.ret (.one (.d true true (.prod (.int .i64) (.int .i64)) ([((-1), 2)]))))
    | false => none
  | _ => none
set_option maxHeartbeats 4000000 in
theorem mf79_1_ok : FunOK Try.prog 79 mf79_1_g := by
  refine fun_ok (by kernel_rfl) (suW_S51_ok) (L0_ok _) 9 (On := (opens [81])) (fun args t h => ?_)
  unfold mf79_1_g at h
  split at h
  · split at h
    · rename_i hc
      simp only [Bool.and_eq_true, decide_eq_true_eq] at hc
      obtain ⟨rfl, rfl⟩ := hc
      simp only [Option.some.injEq] at h
      subst h
      refine ⟨[.one (.d true true (.prod (.int .i64) (.int .i64)) ([(0, 1)])), .one (.v true (.int .i64 (1)))], rfl, fun fr w us h => h, fun r hr => ?_⟩
      rw [mf79_1_tree]
      exact hr
    · cases h
  · cases h
noncomputable def suW_S52 : Sums := addS 79 mf79_1_g suW_S51
theorem suW_S52_ok : SumOK Try.prog suW_S52 := addS_ok (mf79_1_ok) (suW_S51_ok)
set_option maxRecDepth 100000 in
theorem mf80_2_tree : evalF Try.prog suW_S52 (opens [81]) L0 9 80 [.one (.d true true (.prod (.int .i64) (.int .i64)) ([])), .one (.d true true (.prod (.int .i64) (.int .i64)) ([]))] = .ret (.one (.d true true (.prod (.int .i64) (.int .i64)) ([]))) := by kernel_rfl
def mf80_2_g : List AV → Option (Tr AV)
  | [.one (.d _ _ (.prod (.int .i64) (.int .i64)) a0), .one (.d _ _ (.prod (.int .i64) (.int .i64)) a1)] =>
    match decide (a0 = ([] : (Ty.list (.prod (.int .i64) (.int .i64))).den)) && decide (a1 = ([] : (Ty.list (.prod (.int .i64) (.int .i64))).den)) with
    | true => some (.ret (.one (.d true true (.prod (.int .i64) (.int .i64)) ([]))))
    | false => none
  | _ => none
set_option maxHeartbeats 4000000 in
theorem mf80_2_ok : FunOK Try.prog 80 mf80_2_g := by
  refine fun_ok (by kernel_rfl) (suW_S52_ok) (L0_ok _) 9 (On := (opens [81])) (fun args t h => ?_)
  unfold mf80_2_g at h
  split at h
  · split at h
    · rename_i hc
      simp only [Bool.and_eq_true, decide_eq_true_eq] at hc
      obtain ⟨rfl, rfl⟩ := hc
      simp only [Option.some.injEq] at h
      subst h
      refine ⟨[.one (.d true true (.prod (.int .i64) (.int .i64)) ([])), .one (.d true true (.prod (.int .i64) (.int .i64)) ([]))], rfl, fun fr w us h => h, fun r hr => ?_⟩
      rw [mf80_2_tree]
      exact hr
    · cases h
  · cases h
noncomputable def suW_S53 : Sums := addS 80 mf80_2_g suW_S52
theorem suW_S53_ok : SumOK Try.prog suW_S53 := addS_ok (mf80_2_ok) (suW_S52_ok)
set_option maxRecDepth 100000 in
theorem mf80_3_tree : evalF Try.prog suW_S53 (opens [81]) L0 9 80 [.one (.d true true (.prod (.int .i64) (.int .i64)) ([])), .one (.d true true (.prod (.int .i64) (.int .i64)) ([((-1), 2)]))] = .ret (.one (.d true true (.prod (.int .i64) (.int .i64)) ([((-1), 2)]))) := by kernel_rfl
def mf80_3_g : List AV → Option (Tr AV)
  | [.one (.d _ _ (.prod (.int .i64) (.int .i64)) a0), .one (.d _ _ (.prod (.int .i64) (.int .i64)) a1)] =>
    match decide (a0 = ([] : (Ty.list (.prod (.int .i64) (.int .i64))).den)) && decide (a1 = ([((-1), 2)] : (Ty.list (.prod (.int .i64) (.int .i64))).den)) with
    | true => some (.ret (.one (.d true true (.prod (.int .i64) (.int .i64)) ([((-1), 2)]))))
    | false => none
  | _ => none
set_option maxHeartbeats 4000000 in
theorem mf80_3_ok : FunOK Try.prog 80 mf80_3_g := by
  refine fun_ok (by kernel_rfl) (suW_S53_ok) (L0_ok _) 9 (On := (opens [81])) (fun args t h => ?_)
  unfold mf80_3_g at h
  split at h
  · split at h
    · rename_i hc
      simp only [Bool.and_eq_true, decide_eq_true_eq] at hc
      obtain ⟨rfl, rfl⟩ := hc
      simp only [Option.some.injEq] at h
      subst h
      refine ⟨[.one (.d true true (.prod (.int .i64) (.int .i64)) ([])), .one (.d true true (.prod (.int .i64) (.int .i64)) ([((-1), 2)]))], rfl, fun fr w us h => h, fun r hr => ?_⟩
      rw [mf80_3_tree]
      exact hr
    · cases h
  · cases h
noncomputable def suW_S54 : Sums := addS 80 mf80_3_g suW_S53
theorem suW_S54_ok : SumOK Try.prog suW_S54 := addS_ok (mf80_3_ok) (suW_S53_ok)
set_option maxRecDepth 100000 in
theorem mf80_4_tree : evalF Try.prog suW_S54 (opens [81]) L0 9 80 [.one (.d true true (.prod (.int .i64) (.int .i64)) ([((-1), 2)])), .one (.d true true (.prod (.int .i64) (.int .i64)) ([]))] = .ret (.one (.d true true (.prod (.int .i64) (.int .i64)) ([((-1), 2)]))) := by kernel_rfl
def mf80_4_g : List AV → Option (Tr AV)
  | [.one (.d _ _ (.prod (.int .i64) (.int .i64)) a0), .one (.d _ _ (.prod (.int .i64) (.int .i64)) a1)] =>
    match decide (a0 = ([((-1), 2)] : (Ty.list (.prod (.int .i64) (.int .i64))).den)) && decide (a1 = ([] : (Ty.list (.prod (.int .i64) (.int .i64))).den)) with
    | true => some (.ret (.one (.d true true (.prod (.int .i64) (.int .i64)) ([((-1), 2)]))))
    | false => none
  | _ => none
set_option maxHeartbeats 4000000 in
theorem mf80_4_ok : FunOK Try.prog 80 mf80_4_g := by
  refine fun_ok (by kernel_rfl) (suW_S54_ok) (L0_ok _) 9 (On := (opens [81])) (fun args t h => ?_)
  unfold mf80_4_g at h
  split at h
  · split at h
    · rename_i hc
      simp only [Bool.and_eq_true, decide_eq_true_eq] at hc
      obtain ⟨rfl, rfl⟩ := hc
      simp only [Option.some.injEq] at h
      subst h
      refine ⟨[.one (.d true true (.prod (.int .i64) (.int .i64)) ([((-1), 2)])), .one (.d true true (.prod (.int .i64) (.int .i64)) ([]))], rfl, fun fr w us h => h, fun r hr => ?_⟩
      rw [mf80_4_tree]
      exact hr
    · cases h
  · cases h
noncomputable def suW_S55 : Sums := addS 80 mf80_4_g suW_S54
theorem suW_S55_ok : SumOK Try.prog suW_S55 := addS_ok (mf80_4_ok) (suW_S54_ok)
set_option maxRecDepth 100000 in
theorem mf80_5_tree : evalF Try.prog suW_S55 (opens [81]) L0 9 80 [.one (.d true true (.prod (.int .i64) (.int .i64)) ([((-1), 2)])), .one (.d true true (.prod (.int .i64) (.int .i64)) ([((-1), 2)]))] = .ret (.one (.d true true (.prod (.int .i64) (.int .i64)) ([((-1), 2)]))) := by kernel_rfl
def mf80_5_g : List AV → Option (Tr AV)
  | [.one (.d _ _ (.prod (.int .i64) (.int .i64)) a0), .one (.d _ _ (.prod (.int .i64) (.int .i64)) a1)] =>
    match decide (a0 = ([((-1), 2)] : (Ty.list (.prod (.int .i64) (.int .i64))).den)) && decide (a1 = ([((-1), 2)] : (Ty.list (.prod (.int .i64) (.int .i64))).den)) with
    | true => some (.ret (.one (.d true true (.prod (.int .i64) (.int .i64)) ([((-1), 2)]))))
    | false => none
  | _ => none
set_option maxHeartbeats 4000000 in
theorem mf80_5_ok : FunOK Try.prog 80 mf80_5_g := by
  refine fun_ok (by kernel_rfl) (suW_S55_ok) (L0_ok _) 9 (On := (opens [81])) (fun args t h => ?_)
  unfold mf80_5_g at h
  split at h
  · split at h
    · rename_i hc
      simp only [Bool.and_eq_true, decide_eq_true_eq] at hc
      obtain ⟨rfl, rfl⟩ := hc
      simp only [Option.some.injEq] at h
      subst h
      refine ⟨[.one (.d true true (.prod (.int .i64) (.int .i64)) ([((-1), 2)])), .one (.d true true (.prod (.int .i64) (.int .i64)) ([((-1), 2)]))], rfl, fun fr w us h => h, fun r hr => ?_⟩
      rw [mf80_5_tree]
      exact hr
    · cases h
  · cases h
noncomputable def suW_S56 : Sums := addS 80 mf80_5_g suW_S55
theorem suW_S56_ok : SumOK Try.prog suW_S56 := addS_ok (mf80_5_ok) (suW_S55_ok)
set_option maxRecDepth 100000 in
theorem mf79_6_tree : evalF Try.prog suW_S56 (opens [81]) L0 9 79 [.one (.d true true (.prod (.int .i64) (.int .i64)) ([])), .one (.v true (.int .i64 (2)))] = .ret (.one (.d true true (.prod (.int .i64) (.int .i64)) ([]))) := by kernel_rfl
def mf79_6_g : List AV → Option (Tr AV)
  | [.one (.d _ _ (.prod (.int .i64) (.int .i64)) a0), .one (.v _ (.int .i64 a1))] =>
    match decide (a0 = ([] : (Ty.list (.prod (.int .i64) (.int .i64))).den)) && decide (a1 = (2 : Int)) with
    | true => some (.ret (.one (.d true true (.prod (.int .i64) (.int .i64)) ([]))))
    | false => none
  | _ => none
set_option maxHeartbeats 4000000 in
theorem mf79_6_ok : FunOK Try.prog 79 mf79_6_g := by
  refine fun_ok (by kernel_rfl) (suW_S56_ok) (L0_ok _) 9 (On := (opens [81])) (fun args t h => ?_)
  unfold mf79_6_g at h
  split at h
  · split at h
    · rename_i hc
      simp only [Bool.and_eq_true, decide_eq_true_eq] at hc
      obtain ⟨rfl, rfl⟩ := hc
      simp only [Option.some.injEq] at h
      subst h
      refine ⟨[.one (.d true true (.prod (.int .i64) (.int .i64)) ([])), .one (.v true (.int .i64 (2)))], rfl, fun fr w us h => h, fun r hr => ?_⟩
      rw [mf79_6_tree]
      exact hr
    · cases h
  · cases h
noncomputable def suW_S57 : Sums := addS 79 mf79_6_g suW_S56
theorem suW_S57_ok : SumOK Try.prog suW_S57 := addS_ok (mf79_6_ok) (suW_S56_ok)
set_option maxRecDepth 100000 in
theorem mf79_7_tree : evalF Try.prog suW_S57 (opens [81]) L0 9 79 [.one (.d true true (.prod (.int .i64) (.int .i64)) ([(0, 1)])), .one (.v true (.int .i64 (2)))] = .ret (.one (.d true true (.prod (.int .i64) (.int .i64)) ([((-2), 3)]))) := by kernel_rfl
def mf79_7_g : List AV → Option (Tr AV)
  | [.one (.d _ _ (.prod (.int .i64) (.int .i64)) a0), .one (.v _ (.int .i64 a1))] =>
    match decide (a0 = ([(0, 1)] : (Ty.list (.prod (.int .i64) (.int .i64))).den)) && decide (a1 = (2 : Int)) with
    | true => some (.ret (.one (.d true true (.prod (.int .i64) (.int .i64)) ([((-2), 3)]))))
    | false => none
  | _ => none
set_option maxHeartbeats 4000000 in
theorem mf79_7_ok : FunOK Try.prog 79 mf79_7_g := by
  refine fun_ok (by kernel_rfl) (suW_S57_ok) (L0_ok _) 9 (On := (opens [81])) (fun args t h => ?_)
  unfold mf79_7_g at h
  split at h
  · split at h
    · rename_i hc
      simp only [Bool.and_eq_true, decide_eq_true_eq] at hc
      obtain ⟨rfl, rfl⟩ := hc
      simp only [Option.some.injEq] at h
      subst h
      refine ⟨[.one (.d true true (.prod (.int .i64) (.int .i64)) ([(0, 1)])), .one (.v true (.int .i64 (2)))], rfl, fun fr w us h => h, fun r hr => ?_⟩
      rw [mf79_7_tree]
      exact hr
    · cases h
  · cases h
noncomputable def suW_S58 : Sums := addS 79 mf79_7_g suW_S57
theorem suW_S58_ok : SumOK Try.prog suW_S58 := addS_ok (mf79_7_ok) (suW_S57_ok)
set_option maxRecDepth 100000 in
theorem mf80_8_tree : evalF Try.prog suW_S58 (opens [81]) L0 9 80 [.one (.d true true (.prod (.int .i64) (.int .i64)) ([])), .one (.d true true (.prod (.int .i64) (.int .i64)) ([((-2), 3)]))] = .ret (.one (.d true true (.prod (.int .i64) (.int .i64)) ([((-2), 3)]))) := by kernel_rfl
def mf80_8_g : List AV → Option (Tr AV)
  | [.one (.d _ _ (.prod (.int .i64) (.int .i64)) a0), .one (.d _ _ (.prod (.int .i64) (.int .i64)) a1)] =>
    match decide (a0 = ([] : (Ty.list (.prod (.int .i64) (.int .i64))).den)) && decide (a1 = ([((-2), 3)] : (Ty.list (.prod (.int .i64) (.int .i64))).den)) with
    | true => some (.ret (.one (.d true true (.prod (.int .i64) (.int .i64)) ([((-2), 3)]))))
    | false => none
  | _ => none
set_option maxHeartbeats 4000000 in
theorem mf80_8_ok : FunOK Try.prog 80 mf80_8_g := by
  refine fun_ok (by kernel_rfl) (suW_S58_ok) (L0_ok _) 9 (On := (opens [81])) (fun args t h => ?_)
  unfold mf80_8_g at h
  split at h
  · split at h
    · rename_i hc
      simp only [Bool.and_eq_true, decide_eq_true_eq] at hc
      obtain ⟨rfl, rfl⟩ := hc
      simp only [Option.some.injEq] at h
      subst h
      refine ⟨[.one (.d true true (.prod (.int .i64) (.int .i64)) ([])), .one (.d true true (.prod (.int .i64) (.int .i64)) ([((-2), 3)]))], rfl, fun fr w us h => h, fun r hr => ?_⟩
      rw [mf80_8_tree]
      exact hr
    · cases h
  · cases h
noncomputable def suW_S59 : Sums := addS 80 mf80_8_g suW_S58
theorem suW_S59_ok : SumOK Try.prog suW_S59 := addS_ok (mf80_8_ok) (suW_S58_ok)
set_option maxRecDepth 100000 in
theorem mf80_9_tree : evalF Try.prog suW_S59 (opens [81]) L0 9 80 [.one (.d true true (.prod (.int .i64) (.int .i64)) ([((-2), 3)])), .one (.d true true (.prod (.int .i64) (.int .i64)) ([]))] = .ret (.one (.d true true (.prod (.int .i64) (.int .i64)) ([((-2), 3)]))) := by kernel_rfl
def mf80_9_g : List AV → Option (Tr AV)
  | [.one (.d _ _ (.prod (.int .i64) (.int .i64)) a0), .one (.d _ _ (.prod (.int .i64) (.int .i64)) a1)] =>
    match decide (a0 = ([((-2), 3)] : (Ty.list (.prod (.int .i64) (.int .i64))).den)) && decide (a1 = ([] : (Ty.list (.prod (.int .i64) (.int .i64))).den)) with
    | true => some (.ret (.one (.d true true (.prod (.int .i64) (.int .i64)) ([((-2), 3)]))))
    | false => none
  | _ => none
set_option maxHeartbeats 4000000 in
theorem mf80_9_ok : FunOK Try.prog 80 mf80_9_g := by
  refine fun_ok (by kernel_rfl) (suW_S59_ok) (L0_ok _) 9 (On := (opens [81])) (fun args t h => ?_)
  unfold mf80_9_g at h
  split at h
  · split at h
    · rename_i hc
      simp only [Bool.and_eq_true, decide_eq_true_eq] at hc
      obtain ⟨rfl, rfl⟩ := hc
      simp only [Option.some.injEq] at h
      subst h
      refine ⟨[.one (.d true true (.prod (.int .i64) (.int .i64)) ([((-2), 3)])), .one (.d true true (.prod (.int .i64) (.int .i64)) ([]))], rfl, fun fr w us h => h, fun r hr => ?_⟩
      rw [mf80_9_tree]
      exact hr
    · cases h
  · cases h
noncomputable def suW_S60 : Sums := addS 80 mf80_9_g suW_S59
theorem suW_S60_ok : SumOK Try.prog suW_S60 := addS_ok (mf80_9_ok) (suW_S59_ok)
set_option maxRecDepth 100000 in
theorem mf80_10_tree : evalF Try.prog suW_S60 (opens [81]) L0 9 80 [.one (.d true true (.prod (.int .i64) (.int .i64)) ([((-2), 3)])), .one (.d true true (.prod (.int .i64) (.int .i64)) ([((-2), 3)]))] = .ret (.one (.d true true (.prod (.int .i64) (.int .i64)) ([((-2), 3)]))) := by kernel_rfl
def mf80_10_g : List AV → Option (Tr AV)
  | [.one (.d _ _ (.prod (.int .i64) (.int .i64)) a0), .one (.d _ _ (.prod (.int .i64) (.int .i64)) a1)] =>
    match decide (a0 = ([((-2), 3)] : (Ty.list (.prod (.int .i64) (.int .i64))).den)) && decide (a1 = ([((-2), 3)] : (Ty.list (.prod (.int .i64) (.int .i64))).den)) with
    | true => some (.ret (.one (.d true true (.prod (.int .i64) (.int .i64)) ([((-2), 3)]))))
    | false => none
  | _ => none
set_option maxHeartbeats 4000000 in
theorem mf80_10_ok : FunOK Try.prog 80 mf80_10_g := by
  refine fun_ok (by kernel_rfl) (suW_S60_ok) (L0_ok _) 9 (On := (opens [81])) (fun args t h => ?_)
  unfold mf80_10_g at h
  split at h
  · split at h
    · rename_i hc
      simp only [Bool.and_eq_true, decide_eq_true_eq] at hc
      obtain ⟨rfl, rfl⟩ := hc
      simp only [Option.some.injEq] at h
      subst h
      refine ⟨[.one (.d true true (.prod (.int .i64) (.int .i64)) ([((-2), 3)])), .one (.d true true (.prod (.int .i64) (.int .i64)) ([((-2), 3)]))], rfl, fun fr w us h => h, fun r hr => ?_⟩
      rw [mf80_10_tree]
      exact hr
    · cases h
  · cases h
noncomputable def suW_S61 : Sums := addS 80 mf80_10_g suW_S60
theorem suW_S61_ok : SumOK Try.prog suW_S61 := addS_ok (mf80_10_ok) (suW_S60_ok)
set_option maxRecDepth 100000 in
theorem mf53_11_tree : evalF Try.prog suW_S61 (opens [81]) L0 9 53 [.ag [.d true true (.prod (.int .i64) (.list (.prod (.int .i64) (.int .i64)))) ([(0, [(0, 1)])])]] = .ret (.one (.v true (.bool (true)))) := by kernel_rfl
def mf53_11_g : List AV → Option (Tr AV)
  | [.ag [.d _ _ (.prod (.int .i64) (.list (.prod (.int .i64) (.int .i64)))) a0]] =>
    match decide (a0 = ([(0, [(0, 1)])] : (Ty.list (.prod (.int .i64) (.list (.prod (.int .i64) (.int .i64))))).den)) with
    | true => some (.ret (.one (.v true (.bool (true)))))
    | false => none
  | _ => none
set_option maxHeartbeats 4000000 in
theorem mf53_11_ok : FunOK Try.prog 53 mf53_11_g := by
  refine fun_ok (by kernel_rfl) (suW_S61_ok) (L0_ok _) 9 (On := (opens [81])) (fun args t h => ?_)
  unfold mf53_11_g at h
  split at h
  · split at h
    · rename_i hc
      simp only [decide_eq_true_eq] at hc
      obtain rfl := hc
      simp only [Option.some.injEq] at h
      subst h
      refine ⟨[.ag [.d true true (.prod (.int .i64) (.list (.prod (.int .i64) (.int .i64)))) ([(0, [(0, 1)])])]], rfl, fun fr w us h => h, fun r hr => ?_⟩
      rw [mf53_11_tree]
      exact hr
    · cases h
  · cases h
noncomputable def suW_S62 : Sums := addS 53 mf53_11_g suW_S61
theorem suW_S62_ok : SumOK Try.prog suW_S62 := addS_ok (mf53_11_ok) (suW_S61_ok)
set_option maxRecDepth 100000 in
theorem mf53_12_tree : evalF Try.prog suW_S62 (opens [81]) L0 9 53 [.ag [.d true true (.prod (.int .i64) (.list (.prod (.int .i64) (.int .i64)))) ([(0, [(0, 4)])])]] = .ret (.one (.v true (.bool (true)))) := by kernel_rfl
def mf53_12_g : List AV → Option (Tr AV)
  | [.ag [.d _ _ (.prod (.int .i64) (.list (.prod (.int .i64) (.int .i64)))) a0]] =>
    match decide (a0 = ([(0, [(0, 4)])] : (Ty.list (.prod (.int .i64) (.list (.prod (.int .i64) (.int .i64))))).den)) with
    | true => some (.ret (.one (.v true (.bool (true)))))
    | false => none
  | _ => none
set_option maxHeartbeats 4000000 in
theorem mf53_12_ok : FunOK Try.prog 53 mf53_12_g := by
  refine fun_ok (by kernel_rfl) (suW_S62_ok) (L0_ok _) 9 (On := (opens [81])) (fun args t h => ?_)
  unfold mf53_12_g at h
  split at h
  · split at h
    · rename_i hc
      simp only [decide_eq_true_eq] at hc
      obtain rfl := hc
      simp only [Option.some.injEq] at h
      subst h
      refine ⟨[.ag [.d true true (.prod (.int .i64) (.list (.prod (.int .i64) (.int .i64)))) ([(0, [(0, 4)])])]], rfl, fun fr w us h => h, fun r hr => ?_⟩
      rw [mf53_12_tree]
      exact hr
    · cases h
  · cases h
noncomputable def suW_S63 : Sums := addS 53 mf53_12_g suW_S62
theorem suW_S63_ok : SumOK Try.prog suW_S63 := addS_ok (mf53_12_ok) (suW_S62_ok)
set_option maxRecDepth 100000 in
theorem mf78_13_tree : evalF Try.prog suW_S63 (opens [81]) L0 9 78 [.ag [.d true true (.prod (.int .i64) (.list (.prod (.int .i64) (.int .i64)))) ([(0, [(0, 1)])])]] = .ret (.tup [(true, [.v true (.int .i64 (0)), .v true (.int .i64 (0))]), (true, [.v true (.int .i64 (0)), .v true (.int .i64 (0))]), (false, [.v true (.bool (true))])]) := by kernel_rfl
def mf78_13_g : List AV → Option (Tr AV)
  | [.ag [.d _ _ (.prod (.int .i64) (.list (.prod (.int .i64) (.int .i64)))) a0]] =>
    match decide (a0 = ([(0, [(0, 1)])] : (Ty.list (.prod (.int .i64) (.list (.prod (.int .i64) (.int .i64))))).den)) with
    | true => some (.ret (.tup [(true, [.v true (.int .i64 (0)), .v true (.int .i64 (0))]), (true, [.v true (.int .i64 (0)), .v true (.int .i64 (0))]), (false, [.v true (.bool (true))])]))
    | false => none
  | _ => none
set_option maxHeartbeats 4000000 in
theorem mf78_13_ok : FunOK Try.prog 78 mf78_13_g := by
  refine fun_ok (by kernel_rfl) (suW_S63_ok) (L0_ok _) 9 (On := (opens [81])) (fun args t h => ?_)
  unfold mf78_13_g at h
  split at h
  · split at h
    · rename_i hc
      simp only [decide_eq_true_eq] at hc
      obtain rfl := hc
      simp only [Option.some.injEq] at h
      subst h
      refine ⟨[.ag [.d true true (.prod (.int .i64) (.list (.prod (.int .i64) (.int .i64)))) ([(0, [(0, 1)])])]], rfl, fun fr w us h => h, fun r hr => ?_⟩
      rw [mf78_13_tree]
      exact hr
    · cases h
  · cases h
noncomputable def suW_S64 : Sums := addS 78 mf78_13_g suW_S63
theorem suW_S64_ok : SumOK Try.prog suW_S64 := addS_ok (mf78_13_ok) (suW_S63_ok)
set_option maxRecDepth 100000 in
theorem mf12_14_tree : evalF Try.prog suW_S64 (opens [81]) L0 9 12 [.ag [.d true true (.prod (.int .i64) (.list (.prod (.int .i64) (.int .i64)))) ([(0, [(0, 1)])])], .one (.v true (.int .i64 (1)))] = .ret (.tup [(true, [.d true true (.prod (.int .i64) (.list (.prod (.int .i64) (.int .i64)))) ([((-1), [((-1), 2)]), (0, [((-1), 2)]), (1, [((-1), 2)])])]), (false, [.v true (.int .i64 (0))])]) := by kernel_rfl
def mf12_14_g : List AV → Option (Tr AV)
  | [.ag [.d _ _ (.prod (.int .i64) (.list (.prod (.int .i64) (.int .i64)))) a0], .one (.v _ (.int .i64 a1))] =>
    match decide (a0 = ([(0, [(0, 1)])] : (Ty.list (.prod (.int .i64) (.list (.prod (.int .i64) (.int .i64))))).den)) && decide (a1 = (1 : Int)) with
    | true => some (.ret (.tup [(true, [.d true true (.prod (.int .i64) (.list (.prod (.int .i64) (.int .i64)))) ([((-1), [((-1), 2)]), (0, [((-1), 2)]), (1, [((-1), 2)])])]), (false, [.v true (.int .i64 (0))])]))
    | false => none
  | _ => none
set_option maxHeartbeats 4000000 in
theorem mf12_14_ok : FunOK Try.prog 12 mf12_14_g := by
  refine fun_ok (by kernel_rfl) (suW_S64_ok) (L0_ok _) 9 (On := (opens [81])) (fun args t h => ?_)
  unfold mf12_14_g at h
  split at h
  · split at h
    · rename_i hc
      simp only [Bool.and_eq_true, decide_eq_true_eq] at hc
      obtain ⟨rfl, rfl⟩ := hc
      simp only [Option.some.injEq] at h
      subst h
      refine ⟨[.ag [.d true true (.prod (.int .i64) (.list (.prod (.int .i64) (.int .i64)))) ([(0, [(0, 1)])])], .one (.v true (.int .i64 (1)))], rfl, fun fr w us h => h, fun r hr => ?_⟩
      rw [mf12_14_tree]
      exact hr
    · cases h
  · cases h
noncomputable def suW_S65 : Sums := addS 12 mf12_14_g suW_S64
theorem suW_S65_ok : SumOK Try.prog suW_S65 := addS_ok (mf12_14_ok) (suW_S64_ok)
set_option maxRecDepth 100000 in
theorem mf12_15_tree : evalF Try.prog suW_S65 (opens [81]) L0 9 12 [.ag [.d true true (.prod (.int .i64) (.list (.prod (.int .i64) (.int .i64)))) ([(0, [(0, 1)])])], .one (.v true (.int .i64 (2)))] = .ret (.tup [(true, [.d true true (.prod (.int .i64) (.list (.prod (.int .i64) (.int .i64)))) ([((-2), [((-2), 3)]), ((-1), [((-2), 3)]), (0, [((-2), 3)]), (1, [((-2), 3)]), (2, [((-2), 3)])])]), (false, [.v true (.int .i64 (0))])]) := by kernel_rfl
def mf12_15_g : List AV → Option (Tr AV)
  | [.ag [.d _ _ (.prod (.int .i64) (.list (.prod (.int .i64) (.int .i64)))) a0], .one (.v _ (.int .i64 a1))] =>
    match decide (a0 = ([(0, [(0, 1)])] : (Ty.list (.prod (.int .i64) (.list (.prod (.int .i64) (.int .i64))))).den)) && decide (a1 = (2 : Int)) with
    | true => some (.ret (.tup [(true, [.d true true (.prod (.int .i64) (.list (.prod (.int .i64) (.int .i64)))) ([((-2), [((-2), 3)]), ((-1), [((-2), 3)]), (0, [((-2), 3)]), (1, [((-2), 3)]), (2, [((-2), 3)])])]), (false, [.v true (.int .i64 (0))])]))
    | false => none
  | _ => none
set_option maxHeartbeats 4000000 in
theorem mf12_15_ok : FunOK Try.prog 12 mf12_15_g := by
  refine fun_ok (by kernel_rfl) (suW_S65_ok) (L0_ok _) 9 (On := (opens [81])) (fun args t h => ?_)
  unfold mf12_15_g at h
  split at h
  · split at h
    · rename_i hc
      simp only [Bool.and_eq_true, decide_eq_true_eq] at hc
      obtain ⟨rfl, rfl⟩ := hc
      simp only [Option.some.injEq] at h
      subst h
      refine ⟨[.ag [.d true true (.prod (.int .i64) (.list (.prod (.int .i64) (.int .i64)))) ([(0, [(0, 1)])])], .one (.v true (.int .i64 (2)))], rfl, fun fr w us h => h, fun r hr => ?_⟩
      rw [mf12_15_tree]
      exact hr
    · cases h
  · cases h
noncomputable def suW_S66 : Sums := addS 12 mf12_15_g suW_S65
theorem suW_S66_ok : SumOK Try.prog suW_S66 := addS_ok (mf12_15_ok) (suW_S65_ok)
set_option maxRecDepth 100000 in
theorem mf57_16_tree : evalF Try.prog suW_S66 (opens [81]) L0 9 57 [.ag [.d true true (.prod (.int .i64) (.list (.prod (.int .i64) (.int .i64)))) ([(0, [(0, 4)])])], .ag [.d true true (.prod (.int .i64) (.list (.prod (.int .i64) (.int .i64)))) ([((-1), [((-1), 2)]), (0, [((-1), 2)]), (1, [((-1), 2)])])]] = .ret (.ag [.d true true (.prod (.int .i64) (.list (.prod (.int .i64) (.int .i64)))) ([(0, [(2, 4)])])]) := by kernel_rfl
def mf57_16_g : List AV → Option (Tr AV)
  | [.ag [.d _ _ (.prod (.int .i64) (.list (.prod (.int .i64) (.int .i64)))) a0], .ag [.d _ _ (.prod (.int .i64) (.list (.prod (.int .i64) (.int .i64)))) a1]] =>
    match decide (a0 = ([(0, [(0, 4)])] : (Ty.list (.prod (.int .i64) (.list (.prod (.int .i64) (.int .i64))))).den)) && decide (a1 = ([((-1), [((-1), 2)]), (0, [((-1), 2)]), (1, [((-1), 2)])] : (Ty.list (.prod (.int .i64) (.list (.prod (.int .i64) (.int .i64))))).den)) with
    | true => some (.ret (.ag [.d true true (.prod (.int .i64) (.list (.prod (.int .i64) (.int .i64)))) ([(0, [(2, 4)])])]))
    | false => none
  | _ => none
set_option maxHeartbeats 4000000 in
theorem mf57_16_ok : FunOK Try.prog 57 mf57_16_g := by
  refine fun_ok (by kernel_rfl) (suW_S66_ok) (L0_ok _) 9 (On := (opens [81])) (fun args t h => ?_)
  unfold mf57_16_g at h
  split at h
  · split at h
    · rename_i hc
      simp only [Bool.and_eq_true, decide_eq_true_eq] at hc
      obtain ⟨rfl, rfl⟩ := hc
      simp only [Option.some.injEq] at h
      subst h
      refine ⟨[.ag [.d true true (.prod (.int .i64) (.list (.prod (.int .i64) (.int .i64)))) ([(0, [(0, 4)])])], .ag [.d true true (.prod (.int .i64) (.list (.prod (.int .i64) (.int .i64)))) ([((-1), [((-1), 2)]), (0, [((-1), 2)]), (1, [((-1), 2)])])]], rfl, fun fr w us h => h, fun r hr => ?_⟩
      rw [mf57_16_tree]
      exact hr
    · cases h
  · cases h
noncomputable def suW_S67 : Sums := addS 57 mf57_16_g suW_S66
theorem suW_S67_ok : SumOK Try.prog suW_S67 := addS_ok (mf57_16_ok) (suW_S66_ok)
set_option maxRecDepth 100000 in
theorem mf66_17_tree : evalF Try.prog suW_S67 (opens [81]) L0 9 66 [.ag [.d true true (.prod (.int .i64) (.list (.prod (.int .i64) (.int .i64)))) ([])], .ag [.d true true (.prod (.int .i64) (.list (.prod (.int .i64) (.int .i64)))) ([(0, [(2, 4)])])]] = .ret (.ag [.d true true (.prod (.int .i64) (.list (.prod (.int .i64) (.int .i64)))) ([(0, [(2, 4)])])]) := by kernel_rfl
def mf66_17_g : List AV → Option (Tr AV)
  | [.ag [.d _ _ (.prod (.int .i64) (.list (.prod (.int .i64) (.int .i64)))) a0], .ag [.d _ _ (.prod (.int .i64) (.list (.prod (.int .i64) (.int .i64)))) a1]] =>
    match decide (a0 = ([] : (Ty.list (.prod (.int .i64) (.list (.prod (.int .i64) (.int .i64))))).den)) && decide (a1 = ([(0, [(2, 4)])] : (Ty.list (.prod (.int .i64) (.list (.prod (.int .i64) (.int .i64))))).den)) with
    | true => some (.ret (.ag [.d true true (.prod (.int .i64) (.list (.prod (.int .i64) (.int .i64)))) ([(0, [(2, 4)])])]))
    | false => none
  | _ => none
set_option maxHeartbeats 4000000 in
theorem mf66_17_ok : FunOK Try.prog 66 mf66_17_g := by
  refine fun_ok (by kernel_rfl) (suW_S67_ok) (L0_ok _) 9 (On := (opens [81])) (fun args t h => ?_)
  unfold mf66_17_g at h
  split at h
  · split at h
    · rename_i hc
      simp only [Bool.and_eq_true, decide_eq_true_eq] at hc
      obtain ⟨rfl, rfl⟩ := hc
      simp only [Option.some.injEq] at h
      subst h
      refine ⟨[.ag [.d true true (.prod (.int .i64) (.list (.prod (.int .i64) (.int .i64)))) ([])], .ag [.d true true (.prod (.int .i64) (.list (.prod (.int .i64) (.int .i64)))) ([(0, [(2, 4)])])]], rfl, fun fr w us h => h, fun r hr => ?_⟩
      rw [mf66_17_tree]
      exact hr
    · cases h
  · cases h
noncomputable def suW_S68 : Sums := addS 66 mf66_17_g suW_S67
theorem suW_S68_ok : SumOK Try.prog suW_S68 := addS_ok (mf66_17_ok) (suW_S67_ok)
set_option maxRecDepth 100000 in
theorem mf57_18_tree : evalF Try.prog suW_S68 (opens [81]) L0 9 57 [.ag [.d true true (.prod (.int .i64) (.list (.prod (.int .i64) (.int .i64)))) ([(0, [(2, 4)])])], .ag [.d true true (.prod (.int .i64) (.list (.prod (.int .i64) (.int .i64)))) ([((-2), [((-2), 3)]), ((-1), [((-2), 3)]), (0, [((-2), 3)]), (1, [((-2), 3)]), (2, [((-2), 3)])])]] = .ret (.ag [.d true true (.prod (.int .i64) (.list (.prod (.int .i64) (.int .i64)))) ([(0, [(3, 4)])])]) := by kernel_rfl
def mf57_18_g : List AV → Option (Tr AV)
  | [.ag [.d _ _ (.prod (.int .i64) (.list (.prod (.int .i64) (.int .i64)))) a0], .ag [.d _ _ (.prod (.int .i64) (.list (.prod (.int .i64) (.int .i64)))) a1]] =>
    match decide (a0 = ([(0, [(2, 4)])] : (Ty.list (.prod (.int .i64) (.list (.prod (.int .i64) (.int .i64))))).den)) && decide (a1 = ([((-2), [((-2), 3)]), ((-1), [((-2), 3)]), (0, [((-2), 3)]), (1, [((-2), 3)]), (2, [((-2), 3)])] : (Ty.list (.prod (.int .i64) (.list (.prod (.int .i64) (.int .i64))))).den)) with
    | true => some (.ret (.ag [.d true true (.prod (.int .i64) (.list (.prod (.int .i64) (.int .i64)))) ([(0, [(3, 4)])])]))
    | false => none
  | _ => none
set_option maxHeartbeats 4000000 in
theorem mf57_18_ok : FunOK Try.prog 57 mf57_18_g := by
  refine fun_ok (by kernel_rfl) (suW_S68_ok) (L0_ok _) 9 (On := (opens [81])) (fun args t h => ?_)
  unfold mf57_18_g at h
  split at h
  · split at h
    · rename_i hc
      simp only [Bool.and_eq_true, decide_eq_true_eq] at hc
      obtain ⟨rfl, rfl⟩ := hc
      simp only [Option.some.injEq] at h
      subst h
      refine ⟨[.ag [.d true true (.prod (.int .i64) (.list (.prod (.int .i64) (.int .i64)))) ([(0, [(2, 4)])])], .ag [.d true true (.prod (.int .i64) (.list (.prod (.int .i64) (.int .i64)))) ([((-2), [((-2), 3)]), ((-1), [((-2), 3)]), (0, [((-2), 3)]), (1, [((-2), 3)]), (2, [((-2), 3)])])]], rfl, fun fr w us h => h, fun r hr => ?_⟩
      rw [mf57_18_tree]
      exact hr
    · cases h
  · cases h
noncomputable def suW_S69 : Sums := addS 57 mf57_18_g suW_S68
theorem suW_S69_ok : SumOK Try.prog suW_S69 := addS_ok (mf57_18_ok) (suW_S68_ok)
set_option maxRecDepth 100000 in
theorem aw28_tree : evalF Try.prog suW_S69 (opens [81]) L0 9 28 [] = .ret (.one (.v true (.bool true))) := by kernel_rfl
noncomputable def suW_S70 : Sums := addS 28 gTrue S0
theorem suW_S70_ok : SumOK Try.prog suW_S70 := addS_ok (gTrue_ok (by kernel_rfl) (suW_S69_ok) (L0_ok _) aw28_tree) (S0_ok _)
end Go.Proofs.Ytacgchandefjgaa
