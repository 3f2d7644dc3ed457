/-
  Layer 20: the example.
-/
import Derived.Test.YtdoodmapmhibhaaProg
import Derived.Test.YtdoodmapmhibhaaFvX
import Derived.Test.YtdoodmapmhibhaaFvZ
import Derived.Test.YtdoodmapmhibhaaAut
import Derived.Test.YtdoodmapmhibhaaRd
import Derived.Test.YtdoodmapmhibhaaPl
import Derived.Test.YtdoodmapmhibhaaScn
namespace Go.Proofs.Ytdoodmapmhibhaa
open Go
set_option maxRecDepth 100000 in
theorem mf39_0_tree : evalF Try.prog S0 (opens [72]) L0 9 39 [.one (.v true (.int .i64 (0))), .one (.v true (.int .i64 (0))), .one (.v true (.int .i64 (1))), .one (.v true (.int .i64 (1)))] = .ret (.ag [.d true true (.prod (.int .i64) (.list (.prod (.int .i64) (.int .i64)))) ([(0, [(0, 1)])])]) := by kernel_rfl
def mf39_0_g : List AV → Option (Tr AV)
  | [.one (.v _ (.int .i64 a0)), .one (.v _ (.int .i64 a1)), .one (.v _ (.int .i64 a2)), .one (.v _ (.int .i64 a3))] =>
    match decide (a0 = (0 : Int)) && decide (a1 = (0 : Int)) && decide (a2 = (1 : Int)) && decide (a3 = (1 : Int)) with
    | true => some (.ret (.ag [.d true true (.prod (.int .i64) (.list (.prod (.int .i64) (.int .i64)))) ([(0, [(0, 1)])])]))
    | false => none
  | _ => none
set_option maxHeartbeats 4000000 in
theorem mf39_0_ok : FunOK Try.prog 39 mf39_0_g := by
  refine fun_ok (by kernel_rfl) (S0_ok _) (L0_ok _) 9 (On := (opens [72])) (fun args t h => ?_)
  unfold mf39_0_g at h
  split at h
  · split at h
    · rename_i hc
      simp only [Bool.and_eq_true, decide_eq_true_eq] at hc
      obtain ⟨⟨⟨rfl, rfl⟩, rfl⟩, rfl⟩ := hc
      simp only [Option.some.injEq] at h
      subst h
      refine ⟨[.one (.v true (.int .i64 (0))), .one (.v true (.int .i64 (0))), .one (.v true (.int .i64 (1))), .one (.v true (.int .i64 (1)))], rfl, fun fr w us h => h, fun r hr => ?_⟩
      rw [mf39_0_tree]
      exact hr
    · cases h
  · cases h
noncomputable def moW_S51 : Sums := addS 39 mf39_0_g S0
theorem moW_S51_ok : SumOK Try.prog moW_S51 := addS_ok (mf39_0_ok) (S0_ok _)
set_option maxRecDepth 100000 in
theorem mf39_1_tree : evalF Try.prog moW_S51 (opens [72]) L0 9 39 [.one (.v true (.int .i64 (4095))), .one (.v true (.int .i64 (0))), .one (.v true (.int .i64 (1))), .one (.v true (.int .i64 (1)))] = .ret (.ag [.d true true (.prod (.int .i64) (.list (.prod (.int .i64) (.int .i64)))) ([(0, [(4095, 4096)])])]) := by kernel_rfl
def mf39_1_g : List AV → Option (Tr AV)
  | [.one (.v _ (.int .i64 a0)), .one (.v _ (.int .i64 a1)), .one (.v _ (.int .i64 a2)), .one (.v _ (.int .i64 a3))] =>
    match decide (a0 = (4095 : Int)) && decide (a1 = (0 : Int)) && decide (a2 = (1 : Int)) && decide (a3 = (1 : Int)) with
    | true => some (.ret (.ag [.d true true (.prod (.int .i64) (.list (.prod (.int .i64) (.int .i64)))) ([(0, [(4095, 4096)])])]))
    | false => none
  | _ => none
set_option maxHeartbeats 4000000 in
theorem mf39_1_ok : FunOK Try.prog 39 mf39_1_g := by
  refine fun_ok (by kernel_rfl) (moW_S51_ok) (L0_ok _) 9 (On := (opens [72])) (fun args t h => ?_)
  unfold mf39_1_g at h
  split at h
  · split at h
    · rename_i hc
      simp only [Bool.and_eq_true, decide_eq_true_eq] at hc
      obtain ⟨⟨⟨rfl, rfl⟩, rfl⟩, rfl⟩ := hc
      simp only [Option.some.injEq] at h
      subst h
      refine ⟨[.one (.v true (.int .i64 (4095))), .one (.v true (.int .i64 (0))), .one (.v true (.int .i64 (1))), .one (.v true (.int .i64 (1)))], rfl, fun fr w us h => h, fun r hr => ?_⟩
      rw [mf39_1_tree]
      exact hr
    · cases h
  · cases h
noncomputable def moW_S52 : Sums := addS 39 mf39_1_g moW_S51
theorem moW_S52_ok : SumOK Try.prog moW_S52 := addS_ok (mf39_1_ok) (moW_S51_ok)
set_option maxRecDepth 100000 in
theorem mf39_2_tree : evalF Try.prog moW_S52 (opens [72]) L0 9 39 [.one (.v true (.int .i64 (0))), .one (.v true (.int .i64 (0))), .one (.v true (.int .i64 (3))), .one (.v true (.int .i64 (3)))] = .ret (.ag [.d true true (.prod (.int .i64) (.list (.prod (.int .i64) (.int .i64)))) ([(0, [(0, 3)]), (1, [(0, 3)]), (2, [(0, 3)])])]) := by kernel_rfl
def mf39_2_g : List AV → Option (Tr AV)
  | [.one (.v _ (.int .i64 a0)), .one (.v _ (.int .i64 a1)), .one (.v _ (.int .i64 a2)), .one (.v _ (.int .i64 a3))] =>
    match decide (a0 = (0 : Int)) && decide (a1 = (0 : Int)) && decide (a2 = (3 : Int)) && decide (a3 = (3 : Int)) with
    | true => some (.ret (.ag [.d true true (.prod (.int .i64) (.list (.prod (.int .i64) (.int .i64)))) ([(0, [(0, 3)]), (1, [(0, 3)]), (2, [(0, 3)])])]))
    | false => none
  | _ => none
set_option maxHeartbeats 4000000 in
theorem mf39_2_ok : FunOK Try.prog 39 mf39_2_g := by
  refine fun_ok (by kernel_rfl) (moW_S52_ok) (L0_ok _) 9 (On := (opens [72])) (fun args t h => ?_)
  unfold mf39_2_g at h
  split at h
  · split at h
    · rename_i hc
      simp only [Bool.and_eq_true, decide_eq_true_eq] at hc
      obtain ⟨⟨⟨rfl, rfl⟩, rfl⟩, rfl⟩ := hc
      simp only [Option.some.injEq] at h
      subst h
      refine ⟨[.one (.v true (.int .i64 (0))), .one (.v true (.int .i64 (0))), .one (.v true (.int .i64 (3))), .one (.v true (.int .i64 (3)))], rfl, fun fr w us h => h, fun r hr => ?_⟩
      rw [mf39_2_tree]
      exact hr
    · cases h
  · cases h
noncomputable def moW_S53 : Sums := addS 39 mf39_2_g moW_S52
theorem moW_S53_ok : SumOK Try.prog moW_S53 := addS_ok (mf39_2_ok) (moW_S52_ok)
set_option maxRecDepth 100000 in
theorem mf39_3_tree : evalF Try.prog moW_S53 (opens [72]) L0 9 39 [.one (.v true (.int .i64 (3))), .one (.v true (.int .i64 (1))), .one (.v true (.int .i64 (1))), .one (.v true (.int .i64 (1)))] = .ret (.ag [.d true true (.prod (.int .i64) (.list (.prod (.int .i64) (.int .i64)))) ([(1, [(3, 4)])])]) := by kernel_rfl
def mf39_3_g : List AV → Option (Tr AV)
  | [.one (.v _ (.int .i64 a0)), .one (.v _ (.int .i64 a1)), .one (.v _ (.int .i64 a2)), .one (.v _ (.int .i64 a3))] =>
    match decide (a0 = (3 : Int)) && decide (a1 = (1 : Int)) && decide (a2 = (1 : Int)) && decide (a3 = (1 : Int)) with
    | true => some (.ret (.ag [.d true true (.prod (.int .i64) (.list (.prod (.int .i64) (.int .i64)))) ([(1, [(3, 4)])])]))
    | false => none
  | _ => none
set_option maxHeartbeats 4000000 in
theorem mf39_3_ok : FunOK Try.prog 39 mf39_3_g := by
  refine fun_ok (by kernel_rfl) (moW_S53_ok) (L0_ok _) 9 (On := (opens [72])) (fun args t h => ?_)
  unfold mf39_3_g at h
  split at h
  · split at h
    · rename_i hc
      simp only [Bool.and_eq_true, decide_eq_true_eq] at hc
      obtain ⟨⟨⟨rfl, rfl⟩, rfl⟩, rfl⟩ := hc
      simp only [Option.some.injEq] at h
      subst h
      refine ⟨[.one (.v true (.int .i64 (3))), .one (.v true (.int .i64 (1))), .one (.v true (.int .i64 (1))), .one (.v true (.int .i64 (1)))], rfl, fun fr w us h => h, fun r hr => ?_⟩
      rw [mf39_3_tree]
      exact hr
    · cases h
  · cases h
noncomputable def moW_S54 : Sums := addS 39 mf39_3_g moW_S53
theorem moW_S54_ok : SumOK Try.prog moW_S54 := addS_ok (mf39_3_ok) (moW_S53_ok)
set_option maxRecDepth 100000 in
theorem mf39_4_tree : evalF Try.prog moW_S54 (opens [72]) L0 9 39 [.one (.v true (.int .i64 (2))), .one (.v true (.int .i64 (0))), .one (.v true (.int .i64 (1))), .one (.v true (.int .i64 (1)))] = .ret (.ag [.d true true (.prod (.int .i64) (.list (.prod (.int .i64) (.int .i64)))) ([(0, [(2, 3)])])]) := by kernel_rfl
def mf39_4_g : List AV → Option (Tr AV)
  | [.one (.v _ (.int .i64 a0)), .one (.v _ (.int .i64 a1)), .one (.v _ (.int .i64 a2)), .one (.v _ (.int .i64 a3))] =>
    match decide (a0 = (2 : Int)) && decide (a1 = (0 : Int)) && decide (a2 = (1 : Int)) && decide (a3 = (1 : Int)) with
    | true => some (.ret (.ag [.d true true (.prod (.int .i64) (.list (.prod (.int .i64) (.int .i64)))) ([(0, [(2, 3)])])]))
    | false => none
  | _ => none
set_option maxHeartbeats 4000000 in
theorem mf39_4_ok : FunOK Try.prog 39 mf39_4_g := by
  refine fun_ok (by kernel_rfl) (moW_S54_ok) (L0_ok _) 9 (On := (opens [72])) (fun args t h => ?_)
  unfold mf39_4_g at h
  split at h
  · split at h
    · rename_i hc
      simp only [Bool.and_eq_true, decide_eq_true_eq] at hc
      obtain ⟨⟨⟨rfl, rfl⟩, rfl⟩, rfl⟩ := hc
      simp only [Option.some.injEq] at h
      subst h
      refine ⟨[.one (.v true (.int .i64 (2))), .one (.v true (.int .i64 (0))), .one (.v true (.int .i64 (1))), .one (.v true (.int .i64 (1)))], rfl, fun fr w us h => h, fun r hr => ?_⟩
      rw [mf39_4_tree]
      exact hr
    · cases h
  · cases h
noncomputable def moW_S55 : Sums := addS 39 mf39_4_g moW_S54
theorem moW_S55_ok : SumOK Try.prog moW_S55 := addS_ok (mf39_4_ok) (moW_S54_ok)
set_option maxRecDepth 100000 in
theorem mf39_5_tree : evalF Try.prog moW_S55 (opens [72]) L0 9 39 [.one (.v true (.int .i64 (-1))), .one (.v true (.int .i64 (-1))), .one (.v true (.int .i64 (3))), .one (.v true (.int .i64 (3)))] = .ret (.ag [.d true true (.prod (.int .i64) (.list (.prod (.int .i64) (.int .i64)))) ([((-1), [((-1), 2)]), (0, [((-1), 2)]), (1, [((-1), 2)])])]) := by kernel_rfl
def mf39_5_g : List AV → Option (Tr AV)
  | [.one (.v _ (.int .i64 a0)), .one (.v _ (.int .i64 a1)), .one (.v _ (.int .i64 a2)), .one (.v _ (.int .i64 a3))] =>
    match decide (a0 = (-1 : Int)) && decide (a1 = (-1 : Int)) && decide (a2 = (3 : Int)) && decide (a3 = (3 : Int)) with
    | true => some (.ret (.ag [.d true true (.prod (.int .i64) (.list (.prod (.int .i64) (.int .i64)))) ([((-1), [((-1), 2)]), (0, [((-1), 2)]), (1, [((-1), 2)])])]))
    | false => none
  | _ => none
set_option maxHeartbeats 4000000 in
theorem mf39_5_ok : FunOK Try.prog 39 mf39_5_g := by
  refine fun_ok (by kernel_rfl) (moW_S55_ok) (L0_ok _) 9 (On := (opens [72])) (fun args t h => ?_)
  unfold mf39_5_g at h
  split at h
  · split at h
    · rename_i hc
      simp only [Bool.and_eq_true, decide_eq_true_eq] at hc
      obtain ⟨⟨⟨rfl, rfl⟩, rfl⟩, rfl⟩ := hc
      simp only [Option.some.injEq] at h
      subst h
      refine ⟨[.one (.v true (.int .i64 (-1))), .one (.v true (.int .i64 (-1))), .one (.v true (.int .i64 (3))), .one (.v true (.int .i64 (3)))], rfl, fun fr w us h => h, fun r hr => ?_⟩
      rw [mf39_5_tree]
      exact hr
    · cases h
  · cases h
noncomputable def moW_S56 : Sums := addS 39 mf39_5_g moW_S55
theorem moW_S56_ok : SumOK Try.prog moW_S56 := addS_ok (mf39_5_ok) (moW_S55_ok)
set_option maxRecDepth 100000 in
theorem mf39_6_tree : evalF Try.prog moW_S56 (opens [72]) L0 9 39 [.one (.v true (.int .i64 (0))), .one (.v true (.int .i64 (0))), .one (.v true (.int .i64 (4))), .one (.v true (.int .i64 (4)))] = .ret (.ag [.d true true (.prod (.int .i64) (.list (.prod (.int .i64) (.int .i64)))) ([(0, [(0, 4)]), (1, [(0, 4)]), (2, [(0, 4)]), (3, [(0, 4)])])]) := by kernel_rfl
def mf39_6_g : List AV → Option (Tr AV)
  | [.one (.v _ (.int .i64 a0)), .one (.v _ (.int .i64 a1)), .one (.v _ (.int .i64 a2)), .one (.v _ (.int .i64 a3))] =>
    match decide (a0 = (0 : Int)) && decide (a1 = (0 : Int)) && decide (a2 = (4 : Int)) && decide (a3 = (4 : Int)) with
    | true => some (.ret (.ag [.d true true (.prod (.int .i64) (.list (.prod (.int .i64) (.int .i64)))) ([(0, [(0, 4)]), (1, [(0, 4)]), (2, [(0, 4)]), (3, [(0, 4)])])]))
    | false => none
  | _ => none
set_option maxHeartbeats 4000000 in
theorem mf39_6_ok : FunOK Try.prog 39 mf39_6_g := by
  refine fun_ok (by kernel_rfl) (moW_S56_ok) (L0_ok _) 9 (On := (opens [72])) (fun args t h => ?_)
  unfold mf39_6_g at h
  split at h
  · split at h
    · rename_i hc
      simp only [Bool.and_eq_true, decide_eq_true_eq] at hc
      obtain ⟨⟨⟨rfl, rfl⟩, rfl⟩, rfl⟩ := hc
      simp only [Option.some.injEq] at h
      subst h
      refine ⟨[.one (.v true (.int .i64 (0))), .one (.v true (.int .i64 (0))), .one (.v true (.int .i64 (4))), .one (.v true (.int .i64 (4)))], rfl, fun fr w us h => h, fun r hr => ?_⟩
      rw [mf39_6_tree]
      exact hr
    · cases h
  · cases h
noncomputable def moW_S57 : Sums := addS 39 mf39_6_g moW_S56
theorem moW_S57_ok : SumOK Try.prog moW_S57 := addS_ok (mf39_6_ok) (moW_S56_ok)
set_option maxRecDepth 100000 in
theorem mf39_7_tree : evalF Try.prog moW_S57 (opens [72]) L0 9 39 [.one (.v true (.int .i64 (0))), .one (.v true (.int .i64 (0))), .one (.v true (.int .i64 (3))), .one (.v true (.int .i64 (1)))] = .ret (.ag [.d true true (.prod (.int .i64) (.list (.prod (.int .i64) (.int .i64)))) ([(0, [(0, 3)])])]) := by kernel_rfl
def mf39_7_g : List AV → Option (Tr AV)
  | [.one (.v _ (.int .i64 a0)), .one (.v _ (.int .i64 a1)), .one (.v _ (.int .i64 a2)), .one (.v _ (.int .i64 a3))] =>
    match decide (a0 = (0 : Int)) && decide (a1 = (0 : Int)) && decide (a2 = (3 : Int)) && decide (a3 = (1 : Int)) with
    | true => some (.ret (.ag [.d true true (.prod (.int .i64) (.list (.prod (.int .i64) (.int .i64)))) ([(0, [(0, 3)])])]))
    | false => none
  | _ => none
set_option maxHeartbeats 4000000 in
theorem mf39_7_ok : FunOK Try.prog 39 mf39_7_g := by
  refine fun_ok (by kernel_rfl) (moW_S57_ok) (L0_ok _) 9 (On := (opens [72])) (fun args t h => ?_)
  unfold mf39_7_g at h
  split at h
  · split at h
    · rename_i hc
      simp only [Bool.and_eq_true, decide_eq_true_eq] at hc
      obtain ⟨⟨⟨rfl, rfl⟩, rfl⟩, rfl⟩ := hc
      simp only [Option.some.injEq] at h
      subst h
      refine ⟨[.one (.v true (.int .i64 (0))), .one (.v true (.int .i64 (0))), .one (.v true (.int .i64 (3))), .one (.v true (.int .i64 (1)))], rfl, fun fr w us h => h, fun r hr => ?_⟩
      rw [mf39_7_tree]
      exact hr
    · cases h
  · cases h
noncomputable def moW_S58 : Sums := addS 39 mf39_7_g moW_S57
theorem moW_S58_ok : SumOK Try.prog moW_S58 := addS_ok (mf39_7_ok) (moW_S57_ok)
set_option maxRecDepth 100000 in
theorem mf40_8_tree : evalF Try.prog moW_S58 (opens [72]) L0 9 40 [.ag [.d true true (.prod (.int .i64) (.list (.prod (.int .i64) (.int .i64)))) ([(0, [(0, 3)]), (1, [(0, 3)]), (2, [(0, 3)])])], .ag [.d true true (.prod (.int .i64) (.list (.prod (.int .i64) (.int .i64)))) ([(1, [(3, 4)])])]] = .ret (.ag [.d true true (.prod (.int .i64) (.list (.prod (.int .i64) (.int .i64)))) ([(0, [(0, 3)]), (1, [(0, 4)]), (2, [(0, 3)])])]) := by kernel_rfl
def mf40_8_g : List AV → Option (Tr AV)
  | [.ag [.d _ _ (.prod (.int .i64) (.list (.prod (.int .i64) (.int .i64)))) a0], .ag [.d _ _ (.prod (.int .i64) (.list (.prod (.int .i64) (.int .i64)))) a1]] =>
    match decide (a0 = ([(0, [(0, 3)]), (1, [(0, 3)]), (2, [(0, 3)])] : (Ty.list (.prod (.int .i64) (.list (.prod (.int .i64) (.int .i64))))).den)) && decide (a1 = ([(1, [(3, 4)])] : (Ty.list (.prod (.int .i64) (.list (.prod (.int .i64) (.int .i64))))).den)) with
    | true => some (.ret (.ag [.d true true (.prod (.int .i64) (.list (.prod (.int .i64) (.int .i64)))) ([(0, [(0, 3)]), (1, [(0, 4)]), (2, [(0, 3)])])]))
    | false => none
  | _ => none
set_option maxHeartbeats 4000000 in
theorem mf40_8_ok : FunOK Try.prog 40 mf40_8_g := by
  refine fun_ok (by kernel_rfl) (moW_S58_ok) (L0_ok _) 9 (On := (opens [72])) (fun args t h => ?_)
  unfold mf40_8_g at h
  split at h
  · split at h
    · rename_i hc
      simp only [Bool.and_eq_true, decide_eq_true_eq] at hc
      obtain ⟨rfl, rfl⟩ := hc
      simp only [Option.some.injEq] at h
      subst h
      refine ⟨[.ag [.d true true (.prod (.int .i64) (.list (.prod (.int .i64) (.int .i64)))) ([(0, [(0, 3)]), (1, [(0, 3)]), (2, [(0, 3)])])], .ag [.d true true (.prod (.int .i64) (.list (.prod (.int .i64) (.int .i64)))) ([(1, [(3, 4)])])]], rfl, fun fr w us h => h, fun r hr => ?_⟩
      rw [mf40_8_tree]
      exact hr
    · cases h
  · cases h
noncomputable def moW_S59 : Sums := addS 40 mf40_8_g moW_S58
theorem moW_S59_ok : SumOK Try.prog moW_S59 := addS_ok (mf40_8_ok) (moW_S58_ok)
set_option maxRecDepth 100000 in
theorem mf40_9_tree : evalF Try.prog moW_S59 (opens [72]) L0 9 40 [.ag [.d true true (.prod (.int .i64) (.list (.prod (.int .i64) (.int .i64)))) ([(0, [(0, 1)])])], .ag [.d true true (.prod (.int .i64) (.list (.prod (.int .i64) (.int .i64)))) ([(0, [(2, 3)])])]] = .ret (.ag [.d true true (.prod (.int .i64) (.list (.prod (.int .i64) (.int .i64)))) ([(0, [(0, 1), (2, 3)])])]) := by kernel_rfl
def mf40_9_g : List AV → Option (Tr AV)
  | [.ag [.d _ _ (.prod (.int .i64) (.list (.prod (.int .i64) (.int .i64)))) a0], .ag [.d _ _ (.prod (.int .i64) (.list (.prod (.int .i64) (.int .i64)))) a1]] =>
    match decide (a0 = ([(0, [(0, 1)])] : (Ty.list (.prod (.int .i64) (.list (.prod (.int .i64) (.int .i64))))).den)) && decide (a1 = ([(0, [(2, 3)])] : (Ty.list (.prod (.int .i64) (.list (.prod (.int .i64) (.int .i64))))).den)) with
    | true => some (.ret (.ag [.d true true (.prod (.int .i64) (.list (.prod (.int .i64) (.int .i64)))) ([(0, [(0, 1), (2, 3)])])]))
    | false => none
  | _ => none
set_option maxHeartbeats 4000000 in
theorem mf40_9_ok : FunOK Try.prog 40 mf40_9_g := by
  refine fun_ok (by kernel_rfl) (moW_S59_ok) (L0_ok _) 9 (On := (opens [72])) (fun args t h => ?_)
  unfold mf40_9_g at h
  split at h
  · split at h
    · rename_i hc
      simp only [Bool.and_eq_true, decide_eq_true_eq] at hc
      obtain ⟨rfl, rfl⟩ := hc
      simp only [Option.some.injEq] at h
      subst h
      refine ⟨[.ag [.d true true (.prod (.int .i64) (.list (.prod (.int .i64) (.int .i64)))) ([(0, [(0, 1)])])], .ag [.d true true (.prod (.int .i64) (.list (.prod (.int .i64) (.int .i64)))) ([(0, [(2, 3)])])]], rfl, fun fr w us h => h, fun r hr => ?_⟩
      rw [mf40_9_tree]
      exact hr
    · cases h
  · cases h
noncomputable def moW_S60 : Sums := addS 40 mf40_9_g moW_S59
theorem moW_S60_ok : SumOK Try.prog moW_S60 := addS_ok (mf40_9_ok) (moW_S59_ok)
set_option maxRecDepth 100000 in
theorem mf16_10_tree : evalF Try.prog moW_S60 (opens [72]) L0 9 16 [.ag [.d true true (.prod (.int .i64) (.list (.prod (.int .i64) (.int .i64)))) ([(0, [(0, 1)])])], .one (.v true (.int .i64 (1)))] = .ret (.tup [(true, [.d true true (.prod (.int .i64) (.list (.prod (.int .i64) (.int .i64)))) ([((-1), [((-1), 2)]), (0, [((-1), 2)]), (1, [((-1), 2)])])]), (false, [.v true (.int .i64 (0))])]) := by kernel_rfl
def mf16_10_g : List AV → Option (Tr AV)
  | [.ag [.d _ _ (.prod (.int .i64) (.list (.prod (.int .i64) (.int .i64)))) a0], .one (.v _ (.int .i64 a1))] =>
    match decide (a0 = ([(0, [(0, 1)])] : (Ty.list (.prod (.int .i64) (.list (.prod (.int .i64) (.int .i64))))).den)) && decide (a1 = (1 : Int)) with
    | true => some (.ret (.tup [(true, [.d true true (.prod (.int .i64) (.list (.prod (.int .i64) (.int .i64)))) ([((-1), [((-1), 2)]), (0, [((-1), 2)]), (1, [((-1), 2)])])]), (false, [.v true (.int .i64 (0))])]))
    | false => none
  | _ => none
set_option maxHeartbeats 4000000 in
theorem mf16_10_ok : FunOK Try.prog 16 mf16_10_g := by
  refine fun_ok (by kernel_rfl) (moW_S60_ok) (L0_ok _) 9 (On := (opens [72])) (fun args t h => ?_)
  unfold mf16_10_g at h
  split at h
  · split at h
    · rename_i hc
      simp only [Bool.and_eq_true, decide_eq_true_eq] at hc
      obtain ⟨rfl, rfl⟩ := hc
      simp only [Option.some.injEq] at h
      subst h
      refine ⟨[.ag [.d true true (.prod (.int .i64) (.list (.prod (.int .i64) (.int .i64)))) ([(0, [(0, 1)])])], .one (.v true (.int .i64 (1)))], rfl, fun fr w us h => h, fun r hr => ?_⟩
      rw [mf16_10_tree]
      exact hr
    · cases h
  · cases h
noncomputable def moW_S61 : Sums := addS 16 mf16_10_g moW_S60
theorem moW_S61_ok : SumOK Try.prog moW_S61 := addS_ok (mf16_10_ok) (moW_S60_ok)
set_option maxRecDepth 100000 in
theorem mf16_11_tree : evalF Try.prog moW_S61 (opens [72]) L0 9 16 [.ag [.d true true (.prod (.int .i64) (.list (.prod (.int .i64) (.int .i64)))) ([(0, [(4095, 4096)])])], .one (.v true (.int .i64 (1)))] = .ret (.tup [(true, [.d true true (.prod (.int .i64) (.list (.prod (.int .i64) (.int .i64)))) ([])]), (false, [.v true (.int .i64 (8))])]) := by kernel_rfl
def mf16_11_g : List AV → Option (Tr AV)
  | [.ag [.d _ _ (.prod (.int .i64) (.list (.prod (.int .i64) (.int .i64)))) a0], .one (.v _ (.int .i64 a1))] =>
    match decide (a0 = ([(0, [(4095, 4096)])] : (Ty.list (.prod (.int .i64) (.list (.prod (.int .i64) (.int .i64))))).den)) && decide (a1 = (1 : Int)) with
    | true => some (.ret (.tup [(true, [.d true true (.prod (.int .i64) (.list (.prod (.int .i64) (.int .i64)))) ([])]), (false, [.v true (.int .i64 (8))])]))
    | false => none
  | _ => none
set_option maxHeartbeats 4000000 in
theorem mf16_11_ok : FunOK Try.prog 16 mf16_11_g := by
  refine fun_ok (by kernel_rfl) (moW_S61_ok) (L0_ok _) 9 (On := (opens [72])) (fun args t h => ?_)
  unfold mf16_11_g at h
  split at h
  · split at h
    · rename_i hc
      simp only [Bool.and_eq_true, decide_eq_true_eq] at hc
      obtain ⟨rfl, rfl⟩ := hc
      simp only [Option.some.injEq] at h
      subst h
      refine ⟨[.ag [.d true true (.prod (.int .i64) (.list (.prod (.int .i64) (.int .i64)))) ([(0, [(4095, 4096)])])], .one (.v true (.int .i64 (1)))], rfl, fun fr w us h => h, fun r hr => ?_⟩
      rw [mf16_11_tree]
      exact hr
    · cases h
  · cases h
noncomputable def moW_S62 : Sums := addS 16 mf16_11_g moW_S61
theorem moW_S62_ok : SumOK Try.prog moW_S62 := addS_ok (mf16_11_ok) (moW_S61_ok)
set_option maxRecDepth 100000 in
theorem mf34_12_tree : evalF Try.prog moW_S62 (opens [72]) L0 9 34 [.ag [.d true true (.prod (.int .i64) (.list (.prod (.int .i64) (.int .i64)))) ([(0, [(0, 1)])])], .one (.v true (.int .i64 (1)))] = .ret (.tup [(true, [.d true true (.prod (.int .i64) (.list (.prod (.int .i64) (.int .i64)))) ([((-1), [(0, 1)]), (0, [((-1), 2)]), (1, [(0, 1)])])]), (false, [.v true (.int .i64 (0))])]) := by kernel_rfl
def mf34_12_g : List AV → Option (Tr AV)
  | [.ag [.d _ _ (.prod (.int .i64) (.list (.prod (.int .i64) (.int .i64)))) a0], .one (.v _ (.int .i64 a1))] =>
    match decide (a0 = ([(0, [(0, 1)])] : (Ty.list (.prod (.int .i64) (.list (.prod (.int .i64) (.int .i64))))).den)) && decide (a1 = (1 : Int)) with
    | true => some (.ret (.tup [(true, [.d true true (.prod (.int .i64) (.list (.prod (.int .i64) (.int .i64)))) ([((-1), [(0, 1)]), (0, [((-1), 2)]), (1, [(0, 1)])])]), (false, [.v true (.int .i64 (0))])]))
    | false => none
  | _ => none
set_option maxHeartbeats 4000000 in
theorem mf34_12_ok : FunOK Try.prog 34 mf34_12_g := by
  refine fun_ok (by kernel_rfl) (moW_S62_ok) (L0_ok _) 9 (On := (opens [72])) (fun args t h => ?_)
  unfold mf34_12_g at h
  split at h
  · split at h
    · rename_i hc
      simp only [Bool.and_eq_true, decide_eq_true_eq] at hc
      obtain ⟨rfl, rfl⟩ := hc
      simp only [Option.some.injEq] at h
      subst h
      refine ⟨[.ag [.d true true (.prod (.int .i64) (.list (.prod (.int .i64) (.int .i64)))) ([(0, [(0, 1)])])], .one (.v true (.int .i64 (1)))], rfl, fun fr w us h => h, fun r hr => ?_⟩
      rw [mf34_12_tree]
      exact hr
    · cases h
  · cases h
noncomputable def moW_S63 : Sums := addS 34 mf34_12_g moW_S62
theorem moW_S63_ok : SumOK Try.prog moW_S63 := addS_ok (mf34_12_ok) (moW_S62_ok)
set_option maxRecDepth 100000 in
theorem mf65_13_tree : evalF Try.prog moW_S63 (opens [72]) L0 9 65 [.one (.d true true (.prod (.int .i64) (.int .i64)) ([])), .one (.d true true (.prod (.int .i64) (.int .i64)) ([(0, 1)]))] = .ret (.one (.d true true (.prod (.int .i64) (.int .i64)) ([(0, 1)]))) := by kernel_rfl
def mf65_13_g : List AV → Option (Tr AV)
  | [.one (.d _ _ (.prod (.int .i64) (.int .i64)) a0), .one (.d _ _ (.prod (.int .i64) (.int .i64)) a1)] =>
    match decide (a0 = ([] : (Ty.list (.prod (.int .i64) (.int .i64))).den)) && decide (a1 = ([(0, 1)] : (Ty.list (.prod (.int .i64) (.int .i64))).den)) with
    | true => some (.ret (.one (.d true true (.prod (.int .i64) (.int .i64)) ([(0, 1)]))))
    | false => none
  | _ => none
set_option maxHeartbeats 4000000 in
theorem mf65_13_ok : FunOK Try.prog 65 mf65_13_g := by
  refine fun_ok (by kernel_rfl) (moW_S63_ok) (L0_ok _) 9 (On := (opens [72])) (fun args t h => ?_)
  unfold mf65_13_g at h
  split at h
  · split at h
    · rename_i hc
      simp only [Bool.and_eq_true, decide_eq_true_eq] at hc
      obtain ⟨rfl, rfl⟩ := hc
      simp only [Option.some.injEq] at h
      subst h
      refine ⟨[.one (.d true true (.prod (.int .i64) (.int .i64)) ([])), .one (.d true true (.prod (.int .i64) (.int .i64)) ([(0, 1)]))], rfl, fun fr w us h => h, fun r hr => ?_⟩
      rw [mf65_13_tree]
      exact hr
    · cases h
  · cases h
noncomputable def moW_S64 : Sums := addS 65 mf65_13_g moW_S63
theorem moW_S64_ok : SumOK Try.prog moW_S64 := addS_ok (mf65_13_ok) (moW_S63_ok)
set_option maxRecDepth 100000 in
theorem mf71_14_tree : evalF Try.prog moW_S64 (opens [72]) L0 9 71 [.one (.d true true (.prod (.int .i64) (.int .i64)) ([])), .one (.v true (.int .i64 (1)))] = .ret (.one (.d true true (.prod (.int .i64) (.int .i64)) ([]))) := by kernel_rfl
def mf71_14_g : List AV → Option (Tr AV)
  | [.one (.d _ _ (.prod (.int .i64) (.int .i64)) a0), .one (.v _ (.int .i64 a1))] =>
    match decide (a0 = ([] : (Ty.list (.prod (.int .i64) (.int .i64))).den)) && decide (a1 = (1 : Int)) with
    | true => some (.ret (.one (.d true true (.prod (.int .i64) (.int .i64)) ([]))))
    | false => none
  | _ => none
set_option maxHeartbeats 4000000 in
theorem mf71_14_ok : FunOK Try.prog 71 mf71_14_g := by
  refine fun_ok (by kernel_rfl) (moW_S64_ok) (L0_ok _) 9 (On := (opens [72])) (fun args t h => ?_)
  unfold mf71_14_g at h
  split at h
  · split at h
    · rename_i hc
      simp only [Bool.and_eq_true, decide_eq_true_eq] at hc
      obtain ⟨rfl, rfl⟩ := hc
      simp only [Option.some.injEq] at h
      subst h
      refine ⟨[.one (.d true true (.prod (.int .i64) (.int .i64)) ([])), .one (.v true (.int .i64 (1)))], rfl, fun fr w us h => h, fun r hr => ?_⟩
      rw [mf71_14_tree]
      exact hr
    · cases h
  · cases h
noncomputable def moW_S65 : Sums := addS 71 mf71_14_g moW_S64
theorem moW_S65_ok : SumOK Try.prog moW_S65 := addS_ok (mf71_14_ok) (moW_S64_ok)
set_option maxRecDepth 100000 in
theorem mf65_15_tree : evalF Try.prog moW_S65 (opens [72]) L0 9 65 [.one (.d true true (.prod (.int .i64) (.int .i64)) ([(0, 1)])), .one (.d true true (.prod (.int .i64) (.int .i64)) ([]))] = .ret (.one (.d true true (.prod (.int .i64) (.int .i64)) ([(0, 1)]))) := by kernel_rfl
def mf65_15_g : List AV → Option (Tr AV)
  | [.one (.d _ _ (.prod (.int .i64) (.int .i64)) a0), .one (.d _ _ (.prod (.int .i64) (.int .i64)) a1)] =>
    match decide (a0 = ([(0, 1)] : (Ty.list (.prod (.int .i64) (.int .i64))).den)) && decide (a1 = ([] : (Ty.list (.prod (.int .i64) (.int .i64))).den)) with
    | true => some (.ret (.one (.d true true (.prod (.int .i64) (.int .i64)) ([(0, 1)]))))
    | false => none
  | _ => none
set_option maxHeartbeats 4000000 in
theorem mf65_15_ok : FunOK Try.prog 65 mf65_15_g := by
  refine fun_ok (by kernel_rfl) (moW_S65_ok) (L0_ok _) 9 (On := (opens [72])) (fun args t h => ?_)
  unfold mf65_15_g at h
  split at h
  · split at h
    · rename_i hc
      simp only [Bool.and_eq_true, decide_eq_true_eq] at hc
      obtain ⟨rfl, rfl⟩ := hc
      simp only [Option.some.injEq] at h
      subst h
      refine ⟨[.one (.d true true (.prod (.int .i64) (.int .i64)) ([(0, 1)])), .one (.d true true (.prod (.int .i64) (.int .i64)) ([]))], rfl, fun fr w us h => h, fun r hr => ?_⟩
      rw [mf65_15_tree]
      exact hr
    · cases h
  · cases h
noncomputable def moW_S66 : Sums := addS 65 mf65_15_g moW_S65
theorem moW_S66_ok : SumOK Try.prog moW_S66 := addS_ok (mf65_15_ok) (moW_S65_ok)
set_option maxRecDepth 100000 in
theorem mf65_16_tree : evalF Try.prog moW_S66 (opens [72]) L0 9 65 [.one (.d true true (.prod (.int .i64) (.int .i64)) ([])), .one (.d true true (.prod (.int .i64) (.int .i64)) ([((-1), 2)]))] = .ret (.one (.d true true (.prod (.int .i64) (.int .i64)) ([((-1), 2)]))) := by kernel_rfl
def mf65_16_g : List AV → Option (Tr AV)
  | [.one (.d _ _ (.prod (.int .i64) (.int .i64)) a0), .one (.d _ _ (.prod (.int .i64) (.int .i64)) a1)] =>
    match decide (a0 = ([] : (Ty.list (.prod (.int .i64) (.int .i64))).den)) && decide (a1 = ([((-1), 2)] : (Ty.list (.prod (.int .i64) (.int .i64))).den)) with
    | true => some (.ret (.one (.d true true (.prod (.int .i64) (.int .i64)) ([((-1), 2)]))))
    | false => none
  | _ => none
set_option maxHeartbeats 4000000 in
theorem mf65_16_ok : FunOK Try.prog 65 mf65_16_g := by
  refine fun_ok (by kernel_rfl) (moW_S66_ok) (L0_ok _) 9 (On := (opens [72])) (fun args t h => ?_)
  unfold mf65_16_g at h
  split at h
  · split at h
    · rename_i hc
      simp only [Bool.and_eq_true, decide_eq_true_eq] at hc
      obtain ⟨rfl, rfl⟩ := hc
      simp only [Option.some.injEq] at h
      subst h
      refine ⟨[.one (.d true true (.prod (.int .i64) (.int .i64)) ([])), .one (.d true true (.prod (.int .i64) (.int .i64)) ([((-1), 2)]))], rfl, fun fr w us h => h, fun r hr => ?_⟩
      rw [mf65_16_tree]
      exact hr
    · cases h
  · cases h
noncomputable def moW_S67 : Sums := addS 65 mf65_16_g moW_S66
theorem moW_S67_ok : SumOK Try.prog moW_S67 := addS_ok (mf65_16_ok) (moW_S66_ok)
set_option maxRecDepth 100000 in
theorem mf71_17_tree : evalF Try.prog moW_S67 (opens [72]) L0 9 71 [.one (.d true true (.prod (.int .i64) (.int .i64)) ([(0, 1)])), .one (.v true (.int .i64 (1)))] = .ret (.one (.d true true (.prod (.int .i64) (.int .i64)) ([((-1), 2)]))) := by kernel_rfl
def mf71_17_g : List AV → Option (Tr AV)
  | [.one (.d _ _ (.prod (.int .i64) (.int .i64)) a0), .one (.v _ (.int .i64 a1))] =>
    match decide (a0 = ([(0, 1)] : (Ty.list (.prod (.int .i64) (.int .i64))).den)) && decide (a1 = (1 : Int)) with
    | true => some (.ret (.one (.d true true (.prod (.int .i64) (.int .i64)) ([((-1), 2)]))))
    | false => none
  | _ => none
set_option maxHeartbeats 4000000 in
theorem mf71_17_ok : FunOK Try.prog 71 mf71_17_g := by
  refine fun_ok (by kernel_rfl) (moW_S67_ok) (L0_ok _) 9 (On := (opens [72])) (fun args t h => ?_)
  unfold mf71_17_g at h
  split at h
  · split at h
    · rename_i hc
      simp only [Bool.and_eq_true, decide_eq_true_eq] at hc
      obtain ⟨rfl, rfl⟩ := hc
      simp only [Option.some.injEq] at h
      subst h
      refine ⟨[.one (.d true true (.prod (.int .i64) (.int .i64)) ([(0, 1)])), .one (.v true (.int .i64 (1)))], rfl, fun fr w us h => h, fun r hr => ?_⟩
      rw [mf71_17_tree]
      exact hr
    · cases h
  · cases h
noncomputable def moW_S68 : Sums := addS 71 mf71_17_g moW_S67
theorem moW_S68_ok : SumOK Try.prog moW_S68 := addS_ok (mf71_17_ok) (moW_S67_ok)
set_option maxRecDepth 100000 in
theorem mf65_18_tree : evalF Try.prog moW_S68 (opens [72]) L0 9 65 [.one (.d true true (.prod (.int .i64) (.int .i64)) ([((-1), 2)])), .one (.d true true (.prod (.int .i64) (.int .i64)) ([((-1), 2)]))] = .ret (.one (.d true true (.prod (.int .i64) (.int .i64)) ([((-1), 2)]))) := by kernel_rfl
def mf65_18_g : List AV → Option (Tr AV)
  | [.one (.d _ _ (.prod (.int .i64) (.int .i64)) a0), .one (.d _ _ (.prod (.int .i64) (.int .i64)) a1)] =>
    match decide (a0 = ([((-1), 2)] : (Ty.list (.prod (.int .i64) (.int .i64))).den)) && decide (a1 = ([((-1), 2)] : (Ty.list (.prod (.int .i64) (.int .i64))).den)) with
    | true => some (.ret (.one (.d true true (.prod (.int .i64) (.int .i64)) ([((-1), 2)]))))
    | false => none
  | _ => none
set_option maxHeartbeats 4000000 in
theorem mf65_18_ok : FunOK Try.prog 65 mf65_18_g := by
  refine fun_ok (by kernel_rfl) (moW_S68_ok) (L0_ok _) 9 (On := (opens [72])) (fun args t h => ?_)
  unfold mf65_18_g at h
  split at h
  · split at h
    · rename_i hc
      simp only [Bool.and_eq_true, decide_eq_true_eq] at hc
      obtain ⟨rfl, rfl⟩ := hc
      simp only [Option.some.injEq] at h
      subst h
      refine ⟨[.one (.d true true (.prod (.int .i64) (.int .i64)) ([((-1), 2)])), .one (.d true true (.prod (.int .i64) (.int .i64)) ([((-1), 2)]))], rfl, fun fr w us h => h, fun r hr => ?_⟩
      rw [mf65_18_tree]
      exact hr
    · cases h
  · cases h
noncomputable def moW_S69 : Sums := addS 65 mf65_18_g moW_S68
theorem moW_S69_ok : SumOK Try.prog moW_S69 := addS_ok (mf65_18_ok) (moW_S68_ok)
set_option maxRecDepth 100000 in
theorem mf65_19_tree : evalF Try.prog moW_S69 (opens [72]) L0 9 65 [.one (.d true true (.prod (.int .i64) (.int .i64)) ([(0, 1)])), .one (.d true true (.prod (.int .i64) (.int .i64)) ([(0, 1)]))] = .ret (.one (.d true true (.prod (.int .i64) (.int .i64)) ([(0, 1)]))) := by kernel_rfl
def mf65_19_g : List AV → Option (Tr AV)
  | [.one (.d _ _ (.prod (.int .i64) (.int .i64)) a0), .one (.d _ _ (.prod (.int .i64) (.int .i64)) a1)] =>
    match decide (a0 = ([(0, 1)] : (Ty.list (.prod (.int .i64) (.int .i64))).den)) && decide (a1 = ([(0, 1)] : (Ty.list (.prod (.int .i64) (.int .i64))).den)) with
    | true => some (.ret (.one (.d true true (.prod (.int .i64) (.int .i64)) ([(0, 1)]))))
    | false => none
  | _ => none
set_option maxHeartbeats 4000000 in
theorem mf65_19_ok : FunOK Try.prog 65 mf65_19_g := by
  refine fun_ok (by kernel_rfl) (moW_S69_ok) (L0_ok _) 9 (On := (opens [72])) (fun args t h => ?_)
  unfold mf65_19_g at h
  split at h
  · split at h
    · rename_i hc
      simp only [Bool.and_eq_true, decide_eq_true_eq] at hc
      obtain ⟨rfl, rfl⟩ := hc
      simp only [Option.some.injEq] at h
      subst h
      refine ⟨[.one (.d true true (.prod (.int .i64) (.int .i64)) ([(0, 1)])), .one (.d true true (.prod (.int .i64) (.int .i64)) ([(0, 1)]))], rfl, fun fr w us h => h, fun r hr => ?_⟩
      rw [mf65_19_tree]
      exact hr
    · cases h
  · cases h
noncomputable def moW_S70 : Sums := addS 65 mf65_19_g moW_S69
theorem moW_S70_ok : SumOK Try.prog moW_S70 := addS_ok (mf65_19_ok) (moW_S69_ok)
set_option maxRecDepth 100000 in
theorem mf71_20_tree : evalF Try.prog moW_S70 (opens [72]) L0 9 71 [.one (.d true true (.prod (.int .i64) (.int .i64)) ([((-1), 2)])), .one (.v true (.int .i64 (1)))] = .ret (.one (.d true true (.prod (.int .i64) (.int .i64)) ([((-2), 3)]))) := by kernel_rfl
def mf71_20_g : List AV → Option (Tr AV)
  | [.one (.d _ _ (.prod (.int .i64) (.int .i64)) a0), .one (.v _ (.int .i64 a1))] =>
    match decide (a0 = ([((-1), 2)] : (Ty.list (.prod (.int .i64) (.int .i64))).den)) && decide (a1 = (1 : Int)) with
    | true => some (.ret (.one (.d true true (.prod (.int .i64) (.int .i64)) ([((-2), 3)]))))
    | false => none
  | _ => none
set_option maxHeartbeats 4000000 in
theorem mf71_20_ok : FunOK Try.prog 71 mf71_20_g := by
  refine fun_ok (by kernel_rfl) (moW_S70_ok) (L0_ok _) 9 (On := (opens [72])) (fun args t h => ?_)
  unfold mf71_20_g at h
  split at h
  · split at h
    · rename_i hc
      simp only [Bool.and_eq_true, decide_eq_true_eq] at hc
      obtain ⟨rfl, rfl⟩ := hc
      simp only [Option.some.injEq] at h
      subst h
      refine ⟨[.one (.d true true (.prod (.int .i64) (.int .i64)) ([((-1), 2)])), .one (.v true (.int .i64 (1)))], rfl, fun fr w us h => h, fun r hr => ?_⟩
      rw [mf71_20_tree]
      exact hr
    · cases h
  · cases h
noncomputable def moW_S71 : Sums := addS 71 mf71_20_g moW_S70
theorem moW_S71_ok : SumOK Try.prog moW_S71 := addS_ok (mf71_20_ok) (moW_S70_ok)
set_option maxRecDepth 100000 in
theorem mf65_21_tree : evalF Try.prog moW_S71 (opens [72]) L0 9 65 [.one (.d true true (.prod (.int .i64) (.int .i64)) ([(0, 1)])), .one (.d true true (.prod (.int .i64) (.int .i64)) ([((-2), 3)]))] = .ret (.one (.d true true (.prod (.int .i64) (.int .i64)) ([((-2), 3)]))) := by kernel_rfl
def mf65_21_g : List AV → Option (Tr AV)
  | [.one (.d _ _ (.prod (.int .i64) (.int .i64)) a0), .one (.d _ _ (.prod (.int .i64) (.int .i64)) a1)] =>
    match decide (a0 = ([(0, 1)] : (Ty.list (.prod (.int .i64) (.int .i64))).den)) && decide (a1 = ([((-2), 3)] : (Ty.list (.prod (.int .i64) (.int .i64))).den)) with
    | true => some (.ret (.one (.d true true (.prod (.int .i64) (.int .i64)) ([((-2), 3)]))))
    | false => none
  | _ => none
set_option maxHeartbeats 4000000 in
theorem mf65_21_ok : FunOK Try.prog 65 mf65_21_g := by
  refine fun_ok (by kernel_rfl) (moW_S71_ok) (L0_ok _) 9 (On := (opens [72])) (fun args t h => ?_)
  unfold mf65_21_g at h
  split at h
  · split at h
    · rename_i hc
      simp only [Bool.and_eq_true, decide_eq_true_eq] at hc
      obtain ⟨rfl, rfl⟩ := hc
      simp only [Option.some.injEq] at h
      subst h
      refine ⟨[.one (.d true true (.prod (.int .i64) (.int .i64)) ([(0, 1)])), .one (.d true true (.prod (.int .i64) (.int .i64)) ([((-2), 3)]))], rfl, fun fr w us h => h, fun r hr => ?_⟩
      rw [mf65_21_tree]
      exact hr
    · cases h
  · cases h
noncomputable def moW_S72 : Sums := addS 65 mf65_21_g moW_S71
theorem moW_S72_ok : SumOK Try.prog moW_S72 := addS_ok (mf65_21_ok) (moW_S71_ok)
set_option maxRecDepth 100000 in
theorem mf65_22_tree : evalF Try.prog moW_S72 (opens [72]) L0 9 65 [.one (.d true true (.prod (.int .i64) (.int .i64)) ([((-1), 2)])), .one (.d true true (.prod (.int .i64) (.int .i64)) ([]))] = .ret (.one (.d true true (.prod (.int .i64) (.int .i64)) ([((-1), 2)]))) := by kernel_rfl
def mf65_22_g : List AV → Option (Tr AV)
  | [.one (.d _ _ (.prod (.int .i64) (.int .i64)) a0), .one (.d _ _ (.prod (.int .i64) (.int .i64)) a1)] =>
    match decide (a0 = ([((-1), 2)] : (Ty.list (.prod (.int .i64) (.int .i64))).den)) && decide (a1 = ([] : (Ty.list (.prod (.int .i64) (.int .i64))).den)) with
    | true => some (.ret (.one (.d true true (.prod (.int .i64) (.int .i64)) ([((-1), 2)]))))
    | false => none
  | _ => none
set_option maxHeartbeats 4000000 in
theorem mf65_22_ok : FunOK Try.prog 65 mf65_22_g := by
  refine fun_ok (by kernel_rfl) (moW_S72_ok) (L0_ok _) 9 (On := (opens [72])) (fun args t h => ?_)
  unfold mf65_22_g at h
  split at h
  · split at h
    · rename_i hc
      simp only [Bool.and_eq_true, decide_eq_true_eq] at hc
      obtain ⟨rfl, rfl⟩ := hc
      simp only [Option.some.injEq] at h
      subst h
      refine ⟨[.one (.d true true (.prod (.int .i64) (.int .i64)) ([((-1), 2)])), .one (.d true true (.prod (.int .i64) (.int .i64)) ([]))], rfl, fun fr w us h => h, fun r hr => ?_⟩
      rw [mf65_22_tree]
      exact hr
    · cases h
  · cases h
noncomputable def moW_S73 : Sums := addS 65 mf65_22_g moW_S72
theorem moW_S73_ok : SumOK Try.prog moW_S73 := addS_ok (mf65_22_ok) (moW_S72_ok)
set_option maxRecDepth 100000 in
theorem mf71_23_tree : evalF Try.prog moW_S73 (opens [72]) L0 9 71 [.one (.d true true (.prod (.int .i64) (.int .i64)) ([(0, 1), (2, 3)])), .one (.v true (.int .i64 (1)))] = .ret (.one (.d true true (.prod (.int .i64) (.int .i64)) ([((-1), 4)]))) := by kernel_rfl
def mf71_23_g : List AV → Option (Tr AV)
  | [.one (.d _ _ (.prod (.int .i64) (.int .i64)) a0), .one (.v _ (.int .i64 a1))] =>
    match decide (a0 = ([(0, 1), (2, 3)] : (Ty.list (.prod (.int .i64) (.int .i64))).den)) && decide (a1 = (1 : Int)) with
    | true => some (.ret (.one (.d true true (.prod (.int .i64) (.int .i64)) ([((-1), 4)]))))
    | false => none
  | _ => none
set_option maxHeartbeats 4000000 in
theorem mf71_23_ok : FunOK Try.prog 71 mf71_23_g := by
  refine fun_ok (by kernel_rfl) (moW_S73_ok) (L0_ok _) 9 (On := (opens [72])) (fun args t h => ?_)
  unfold mf71_23_g at h
  split at h
  · split at h
    · rename_i hc
      simp only [Bool.and_eq_true, decide_eq_true_eq] at hc
      obtain ⟨rfl, rfl⟩ := hc
      simp only [Option.some.injEq] at h
      subst h
      refine ⟨[.one (.d true true (.prod (.int .i64) (.int .i64)) ([(0, 1), (2, 3)])), .one (.v true (.int .i64 (1)))], rfl, fun fr w us h => h, fun r hr => ?_⟩
      rw [mf71_23_tree]
      exact hr
    · cases h
  · cases h
noncomputable def moW_S74 : Sums := addS 71 mf71_23_g moW_S73
theorem moW_S74_ok : SumOK Try.prog moW_S74 := addS_ok (mf71_23_ok) (moW_S73_ok)
set_option maxRecDepth 100000 in
theorem mf65_24_tree : evalF Try.prog moW_S74 (opens [72]) L0 9 65 [.one (.d true true (.prod (.int .i64) (.int .i64)) ([])), .one (.d true true (.prod (.int .i64) (.int .i64)) ([]))] = .ret (.one (.d true true (.prod (.int .i64) (.int .i64)) ([]))) := by kernel_rfl
def mf65_24_g : List AV → Option (Tr AV)
  | [.one (.d _ _ (.prod (.int .i64) (.int .i64)) a0), .one (.d _ _ (.prod (.int .i64) (.int .i64)) a1)] =>
    match decide (a0 = ([] : (Ty.list (.prod (.int .i64) (.int .i64))).den)) && decide (a1 = ([] : (Ty.list (.prod (.int .i64) (.int .i64))).den)) with
    | true => some (.ret (.one (.d true true (.prod (.int .i64) (.int .i64)) ([]))))
    | false => none
  | _ => none
set_option maxHeartbeats 4000000 in
theorem mf65_24_ok : FunOK Try.prog 65 mf65_24_g := by
  refine fun_ok (by kernel_rfl) (moW_S74_ok) (L0_ok _) 9 (On := (opens [72])) (fun args t h => ?_)
  unfold mf65_24_g at h
  split at h
  · split at h
    · rename_i hc
      simp only [Bool.and_eq_true, decide_eq_true_eq] at hc
      obtain ⟨rfl, rfl⟩ := hc
      simp only [Option.some.injEq] at h
      subst h
      refine ⟨[.one (.d true true (.prod (.int .i64) (.int .i64)) ([])), .one (.d true true (.prod (.int .i64) (.int .i64)) ([]))], rfl, fun fr w us h => h, fun r hr => ?_⟩
      rw [mf65_24_tree]
      exact hr
    · cases h
  · cases h
noncomputable def moW_S75 : Sums := addS 65 mf65_24_g moW_S74
theorem moW_S75_ok : SumOK Try.prog moW_S75 := addS_ok (mf65_24_ok) (moW_S74_ok)
set_option maxRecDepth 100000 in
theorem mf65_25_tree : evalF Try.prog moW_S75 (opens [72]) L0 9 65 [.one (.d true true (.prod (.int .i64) (.int .i64)) ([])), .one (.d true true (.prod (.int .i64) (.int .i64)) ([((-1), 4)]))] = .ret (.one (.d true true (.prod (.int .i64) (.int .i64)) ([((-1), 4)]))) := by kernel_rfl
def mf65_25_g : List AV → Option (Tr AV)
  | [.one (.d _ _ (.prod (.int .i64) (.int .i64)) a0), .one (.d _ _ (.prod (.int .i64) (.int .i64)) a1)] =>
    match decide (a0 = ([] : (Ty.list (.prod (.int .i64) (.int .i64))).den)) && decide (a1 = ([((-1), 4)] : (Ty.list (.prod (.int .i64) (.int .i64))).den)) with
    | true => some (.ret (.one (.d true true (.prod (.int .i64) (.int .i64)) ([((-1), 4)]))))
    | false => none
  | _ => none
set_option maxHeartbeats 4000000 in
theorem mf65_25_ok : FunOK Try.prog 65 mf65_25_g := by
  refine fun_ok (by kernel_rfl) (moW_S75_ok) (L0_ok _) 9 (On := (opens [72])) (fun args t h => ?_)
  unfold mf65_25_g at h
  split at h
  · split at h
    · rename_i hc
      simp only [Bool.and_eq_true, decide_eq_true_eq] at hc
      obtain ⟨rfl, rfl⟩ := hc
      simp only [Option.some.injEq] at h
      subst h
      refine ⟨[.one (.d true true (.prod (.int .i64) (.int .i64)) ([])), .one (.d true true (.prod (.int .i64) (.int .i64)) ([((-1), 4)]))], rfl, fun fr w us h => h, fun r hr => ?_⟩
      rw [mf65_25_tree]
      exact hr
    · cases h
  · cases h
noncomputable def moW_S76 : Sums := addS 65 mf65_25_g moW_S75
theorem moW_S76_ok : SumOK Try.prog moW_S76 := addS_ok (mf65_25_ok) (moW_S75_ok)
set_option maxRecDepth 100000 in
theorem mf65_26_tree : evalF Try.prog moW_S76 (opens [72]) L0 9 65 [.one (.d true true (.prod (.int .i64) (.int .i64)) ([((-1), 4)])), .one (.d true true (.prod (.int .i64) (.int .i64)) ([]))] = .ret (.one (.d true true (.prod (.int .i64) (.int .i64)) ([((-1), 4)]))) := by kernel_rfl
def mf65_26_g : List AV → Option (Tr AV)
  | [.one (.d _ _ (.prod (.int .i64) (.int .i64)) a0), .one (.d _ _ (.prod (.int .i64) (.int .i64)) a1)] =>
    match decide (a0 = ([((-1), 4)] : (Ty.list (.prod (.int .i64) (.int .i64))).den)) && decide (a1 = ([] : (Ty.list (.prod (.int .i64) (.int .i64))).den)) with
    | true => some (.ret (.one (.d true true (.prod (.int .i64) (.int .i64)) ([((-1), 4)]))))
    | false => none
  | _ => none
set_option maxHeartbeats 4000000 in
theorem mf65_26_ok : FunOK Try.prog 65 mf65_26_g := by
  refine fun_ok (by kernel_rfl) (moW_S76_ok) (L0_ok _) 9 (On := (opens [72])) (fun args t h => ?_)
  unfold mf65_26_g at h
  split at h
  · split at h
    · rename_i hc
      simp only [Bool.and_eq_true, decide_eq_true_eq] at hc
      obtain ⟨rfl, rfl⟩ := hc
      simp only [Option.some.injEq] at h
      subst h
      refine ⟨[.one (.d true true (.prod (.int .i64) (.int .i64)) ([((-1), 4)])), .one (.d true true (.prod (.int .i64) (.int .i64)) ([]))], rfl, fun fr w us h => h, fun r hr => ?_⟩
      rw [mf65_26_tree]
      exact hr
    · cases h
  · cases h
noncomputable def moW_S77 : Sums := addS 65 mf65_26_g moW_S76
theorem moW_S77_ok : SumOK Try.prog moW_S77 := addS_ok (mf65_26_ok) (moW_S76_ok)
set_option maxRecDepth 100000 in
theorem mf65_27_tree : evalF Try.prog moW_S77 (opens [72]) L0 9 65 [.one (.d true true (.prod (.int .i64) (.int .i64)) ([((-1), 4)])), .one (.d true true (.prod (.int .i64) (.int .i64)) ([((-1), 4)]))] = .ret (.one (.d true true (.prod (.int .i64) (.int .i64)) ([((-1), 4)]))) := by kernel_rfl
def mf65_27_g : List AV → Option (Tr AV)
  | [.one (.d _ _ (.prod (.int .i64) (.int .i64)) a0), .one (.d _ _ (.prod (.int .i64) (.int .i64)) a1)] =>
    match decide (a0 = ([((-1), 4)] : (Ty.list (.prod (.int .i64) (.int .i64))).den)) && decide (a1 = ([((-1), 4)] : (Ty.list (.prod (.int .i64) (.int .i64))).den)) with
    | true => some (.ret (.one (.d true true (.prod (.int .i64) (.int .i64)) ([((-1), 4)]))))
    | false => none
  | _ => none
set_option maxHeartbeats 4000000 in
theorem mf65_27_ok : FunOK Try.prog 65 mf65_27_g := by
  refine fun_ok (by kernel_rfl) (moW_S77_ok) (L0_ok _) 9 (On := (opens [72])) (fun args t h => ?_)
  unfold mf65_27_g at h
  split at h
  · split at h
    · rename_i hc
      simp only [Bool.and_eq_true, decide_eq_true_eq] at hc
      obtain ⟨rfl, rfl⟩ := hc
      simp only [Option.some.injEq] at h
      subst h
      refine ⟨[.one (.d true true (.prod (.int .i64) (.int .i64)) ([((-1), 4)])), .one (.d true true (.prod (.int .i64) (.int .i64)) ([((-1), 4)]))], rfl, fun fr w us h => h, fun r hr => ?_⟩
      rw [mf65_27_tree]
      exact hr
    · cases h
  · cases h
noncomputable def moW_S78 : Sums := addS 65 mf65_27_g moW_S77
theorem moW_S78_ok : SumOK Try.prog moW_S78 := addS_ok (mf65_27_ok) (moW_S77_ok)
set_option maxRecDepth 100000 in
theorem mf78_28_tree : evalF Try.prog moW_S78 (opens [72]) L0 9 78 [.one (.d true true (.prod (.int .i64) (.int .i64)) ([((-1), 4)])), .one (.v true (.int .i64 (1)))] = .ret (.one (.d true true (.prod (.int .i64) (.int .i64)) ([(0, 3)]))) := by kernel_rfl
def mf78_28_g : List AV → Option (Tr AV)
  | [.one (.d _ _ (.prod (.int .i64) (.int .i64)) a0), .one (.v _ (.int .i64 a1))] =>
    match decide (a0 = ([((-1), 4)] : (Ty.list (.prod (.int .i64) (.int .i64))).den)) && decide (a1 = (1 : Int)) with
    | true => some (.ret (.one (.d true true (.prod (.int .i64) (.int .i64)) ([(0, 3)]))))
    | false => none
  | _ => none
set_option maxHeartbeats 4000000 in
theorem mf78_28_ok : FunOK Try.prog 78 mf78_28_g := by
  refine fun_ok (by kernel_rfl) (moW_S78_ok) (L0_ok _) 9 (On := (opens [72])) (fun args t h => ?_)
  unfold mf78_28_g at h
  split at h
  · split at h
    · rename_i hc
      simp only [Bool.and_eq_true, decide_eq_true_eq] at hc
      obtain ⟨rfl, rfl⟩ := hc
      simp only [Option.some.injEq] at h
      subst h
      refine ⟨[.one (.d true true (.prod (.int .i64) (.int .i64)) ([((-1), 4)])), .one (.v true (.int .i64 (1)))], rfl, fun fr w us h => h, fun r hr => ?_⟩
      rw [mf78_28_tree]
      exact hr
    · cases h
  · cases h
noncomputable def moW_S79 : Sums := addS 78 mf78_28_g moW_S78
theorem moW_S79_ok : SumOK Try.prog moW_S79 := addS_ok (mf78_28_ok) (moW_S78_ok)
set_option maxRecDepth 100000 in
theorem mf66_29_tree : evalF Try.prog moW_S79 (opens [72]) L0 9 66 [.one (.d true true (.prod (.int .i64) (.int .i64)) ([(0, 3)])), .one (.d true true (.prod (.int .i64) (.int .i64)) ([(0, 3)]))] = .ret (.one (.d true true (.prod (.int .i64) (.int .i64)) ([(0, 3)]))) := by kernel_rfl
def mf66_29_g : List AV → Option (Tr AV)
  | [.one (.d _ _ (.prod (.int .i64) (.int .i64)) a0), .one (.d _ _ (.prod (.int .i64) (.int .i64)) a1)] =>
    match decide (a0 = ([(0, 3)] : (Ty.list (.prod (.int .i64) (.int .i64))).den)) && decide (a1 = ([(0, 3)] : (Ty.list (.prod (.int .i64) (.int .i64))).den)) with
    | true => some (.ret (.one (.d true true (.prod (.int .i64) (.int .i64)) ([(0, 3)]))))
    | false => none
  | _ => none
set_option maxHeartbeats 4000000 in
theorem mf66_29_ok : FunOK Try.prog 66 mf66_29_g := by
  refine fun_ok (by kernel_rfl) (moW_S79_ok) (L0_ok _) 9 (On := (opens [72])) (fun args t h => ?_)
  unfold mf66_29_g at h
  split at h
  · split at h
    · rename_i hc
      simp only [Bool.and_eq_true, decide_eq_true_eq] at hc
      obtain ⟨rfl, rfl⟩ := hc
      simp only [Option.some.injEq] at h
      subst h
      refine ⟨[.one (.d true true (.prod (.int .i64) (.int .i64)) ([(0, 3)])), .one (.d true true (.prod (.int .i64) (.int .i64)) ([(0, 3)]))], rfl, fun fr w us h => h, fun r hr => ?_⟩
      rw [mf66_29_tree]
      exact hr
    · cases h
  · cases h
noncomputable def moW_S80 : Sums := addS 66 mf66_29_g moW_S79
theorem moW_S80_ok : SumOK Try.prog moW_S80 := addS_ok (mf66_29_ok) (moW_S79_ok)
set_option maxRecDepth 100000 in
theorem mf78_30_tree : evalF Try.prog moW_S80 (opens [72]) L0 9 78 [.one (.d true true (.prod (.int .i64) (.int .i64)) ([((-1), 2)])), .one (.v true (.int .i64 (1)))] = .ret (.one (.d true true (.prod (.int .i64) (.int .i64)) ([(0, 1)]))) := by kernel_rfl
def mf78_30_g : List AV → Option (Tr AV)
  | [.one (.d _ _ (.prod (.int .i64) (.int .i64)) a0), .one (.v _ (.int .i64 a1))] =>
    match decide (a0 = ([((-1), 2)] : (Ty.list (.prod (.int .i64) (.int .i64))).den)) && decide (a1 = (1 : Int)) with
    | true => some (.ret (.one (.d true true (.prod (.int .i64) (.int .i64)) ([(0, 1)]))))
    | false => none
  | _ => none
set_option maxHeartbeats 4000000 in
theorem mf78_30_ok : FunOK Try.prog 78 mf78_30_g := by
  refine fun_ok (by kernel_rfl) (moW_S80_ok) (L0_ok _) 9 (On := (opens [72])) (fun args t h => ?_)
  unfold mf78_30_g at h
  split at h
  · split at h
    · rename_i hc
      simp only [Bool.and_eq_true, decide_eq_true_eq] at hc
      obtain ⟨rfl, rfl⟩ := hc
      simp only [Option.some.injEq] at h
      subst h
      refine ⟨[.one (.d true true (.prod (.int .i64) (.int .i64)) ([((-1), 2)])), .one (.v true (.int .i64 (1)))], rfl, fun fr w us h => h, fun r hr => ?_⟩
      rw [mf78_30_tree]
      exact hr
    · cases h
  · cases h
noncomputable def moW_S81 : Sums := addS 78 mf78_30_g moW_S80
theorem moW_S81_ok : SumOK Try.prog moW_S81 := addS_ok (mf78_30_ok) (moW_S80_ok)
set_option maxRecDepth 100000 in
theorem mf66_31_tree : evalF Try.prog moW_S81 (opens [72]) L0 9 66 [.one (.d true true (.prod (.int .i64) (.int .i64)) ([(0, 1)])), .one (.d true true (.prod (.int .i64) (.int .i64)) ([(0, 1)]))] = .ret (.one (.d true true (.prod (.int .i64) (.int .i64)) ([(0, 1)]))) := by kernel_rfl
def mf66_31_g : List AV → Option (Tr AV)
  | [.one (.d _ _ (.prod (.int .i64) (.int .i64)) a0), .one (.d _ _ (.prod (.int .i64) (.int .i64)) a1)] =>
    match decide (a0 = ([(0, 1)] : (Ty.list (.prod (.int .i64) (.int .i64))).den)) && decide (a1 = ([(0, 1)] : (Ty.list (.prod (.int .i64) (.int .i64))).den)) with
    | true => some (.ret (.one (.d true true (.prod (.int .i64) (.int .i64)) ([(0, 1)]))))
    | false => none
  | _ => none
set_option maxHeartbeats 4000000 in
theorem mf66_31_ok : FunOK Try.prog 66 mf66_31_g := by
  refine fun_ok (by kernel_rfl) (moW_S81_ok) (L0_ok _) 9 (On := (opens [72])) (fun args t h => ?_)
  unfold mf66_31_g at h
  split at h
  · split at h
    · rename_i hc
      simp only [Bool.and_eq_true, decide_eq_true_eq] at hc
      obtain ⟨rfl, rfl⟩ := hc
      simp only [Option.some.injEq] at h
      subst h
      refine ⟨[.one (.d true true (.prod (.int .i64) (.int .i64)) ([(0, 1)])), .one (.d true true (.prod (.int .i64) (.int .i64)) ([(0, 1)]))], rfl, fun fr w us h => h, fun r hr => ?_⟩
      rw [mf66_31_tree]
      exact hr
    · cases h
  · cases h
noncomputable def moW_S82 : Sums := addS 66 mf66_31_g moW_S81
theorem moW_S82_ok : SumOK Try.prog moW_S82 := addS_ok (mf66_31_ok) (moW_S81_ok)
set_option maxRecDepth 100000 in
theorem mf78_32_tree : evalF Try.prog moW_S82 (opens [72]) L0 9 78 [.one (.d true true (.prod (.int .i64) (.int .i64)) ([(0, 3)])), .one (.v true (.int .i64 (1)))] = .ret (.one (.d true true (.prod (.int .i64) (.int .i64)) ([(1, 2)]))) := by kernel_rfl
def mf78_32_g : List AV → Option (Tr AV)
  | [.one (.d _ _ (.prod (.int .i64) (.int .i64)) a0), .one (.v _ (.int .i64 a1))] =>
    match decide (a0 = ([(0, 3)] : (Ty.list (.prod (.int .i64) (.int .i64))).den)) && decide (a1 = (1 : Int)) with
    | true => some (.ret (.one (.d true true (.prod (.int .i64) (.int .i64)) ([(1, 2)]))))
    | false => none
  | _ => none
set_option maxHeartbeats 4000000 in
theorem mf78_32_ok : FunOK Try.prog 78 mf78_32_g := by
  refine fun_ok (by kernel_rfl) (moW_S82_ok) (L0_ok _) 9 (On := (opens [72])) (fun args t h => ?_)
  unfold mf78_32_g at h
  split at h
  · split at h
    · rename_i hc
      simp only [Bool.and_eq_true, decide_eq_true_eq] at hc
      obtain ⟨rfl, rfl⟩ := hc
      simp only [Option.some.injEq] at h
      subst h
      refine ⟨[.one (.d true true (.prod (.int .i64) (.int .i64)) ([(0, 3)])), .one (.v true (.int .i64 (1)))], rfl, fun fr w us h => h, fun r hr => ?_⟩
      rw [mf78_32_tree]
      exact hr
    · cases h
  · cases h
noncomputable def moW_S83 : Sums := addS 78 mf78_32_g moW_S82
theorem moW_S83_ok : SumOK Try.prog moW_S83 := addS_ok (mf78_32_ok) (moW_S82_ok)
set_option maxRecDepth 100000 in
theorem mf78_33_tree : evalF Try.prog moW_S83 (opens [72]) L0 9 78 [.one (.d true true (.prod (.int .i64) (.int .i64)) ([(0, 4)])), .one (.v true (.int .i64 (1)))] = .ret (.one (.d true true (.prod (.int .i64) (.int .i64)) ([(1, 3)]))) := by kernel_rfl
def mf78_33_g : List AV → Option (Tr AV)
  | [.one (.d _ _ (.prod (.int .i64) (.int .i64)) a0), .one (.v _ (.int .i64 a1))] =>
    match decide (a0 = ([(0, 4)] : (Ty.list (.prod (.int .i64) (.int .i64))).den)) && decide (a1 = (1 : Int)) with
    | true => some (.ret (.one (.d true true (.prod (.int .i64) (.int .i64)) ([(1, 3)]))))
    | false => none
  | _ => none
set_option maxHeartbeats 4000000 in
theorem mf78_33_ok : FunOK Try.prog 78 mf78_33_g := by
  refine fun_ok (by kernel_rfl) (moW_S83_ok) (L0_ok _) 9 (On := (opens [72])) (fun args t h => ?_)
  unfold mf78_33_g at h
  split at h
  · split at h
    · rename_i hc
      simp only [Bool.and_eq_true, decide_eq_true_eq] at hc
      obtain ⟨rfl, rfl⟩ := hc
      simp only [Option.some.injEq] at h
      subst h
      refine ⟨[.one (.d true true (.prod (.int .i64) (.int .i64)) ([(0, 4)])), .one (.v true (.int .i64 (1)))], rfl, fun fr w us h => h, fun r hr => ?_⟩
      rw [mf78_33_tree]
      exact hr
    · cases h
  · cases h
noncomputable def moW_S84 : Sums := addS 78 mf78_33_g moW_S83
theorem moW_S84_ok : SumOK Try.prog moW_S84 := addS_ok (mf78_33_ok) (moW_S83_ok)
set_option maxRecDepth 100000 in
theorem mf66_34_tree : evalF Try.prog moW_S84 (opens [72]) L0 9 66 [.one (.d true true (.prod (.int .i64) (.int .i64)) ([(1, 2)])), .one (.d true true (.prod (.int .i64) (.int .i64)) ([(1, 3)]))] = .ret (.one (.d true true (.prod (.int .i64) (.int .i64)) ([(1, 2)]))) := by kernel_rfl
def mf66_34_g : List AV → Option (Tr AV)
  | [.one (.d _ _ (.prod (.int .i64) (.int .i64)) a0), .one (.d _ _ (.prod (.int .i64) (.int .i64)) a1)] =>
    match decide (a0 = ([(1, 2)] : (Ty.list (.prod (.int .i64) (.int .i64))).den)) && decide (a1 = ([(1, 3)] : (Ty.list (.prod (.int .i64) (.int .i64))).den)) with
    | true => some (.ret (.one (.d true true (.prod (.int .i64) (.int .i64)) ([(1, 2)]))))
    | false => none
  | _ => none
set_option maxHeartbeats 4000000 in
theorem mf66_34_ok : FunOK Try.prog 66 mf66_34_g := by
  refine fun_ok (by kernel_rfl) (moW_S84_ok) (L0_ok _) 9 (On := (opens [72])) (fun args t h => ?_)
  unfold mf66_34_g at h
  split at h
  · split at h
    · rename_i hc
      simp only [Bool.and_eq_true, decide_eq_true_eq] at hc
      obtain ⟨rfl, rfl⟩ := hc
      simp only [Option.some.injEq] at h
      subst h
      refine ⟨[.one (.d true true (.prod (.int .i64) (.int .i64)) ([(1, 2)])), .one (.d true true (.prod (.int .i64) (.int .i64)) ([(1, 3)]))], rfl, fun fr w us h => h, fun r hr => ?_⟩
      rw [mf66_34_tree]
      exact hr
    · cases h
  · cases h
noncomputable def moW_S85 : Sums := addS 66 mf66_34_g moW_S84
theorem moW_S85_ok : SumOK Try.prog moW_S85 := addS_ok (mf66_34_ok) (moW_S84_ok)
set_option maxRecDepth 100000 in
theorem mf66_35_tree : evalF Try.prog moW_S85 (opens [72]) L0 9 66 [.one (.d true true (.prod (.int .i64) (.int .i64)) ([(1, 3)])), .one (.d true true (.prod (.int .i64) (.int .i64)) ([(1, 2)]))] = .ret (.one (.d true true (.prod (.int .i64) (.int .i64)) ([(1, 2)]))) := by kernel_rfl
def mf66_35_g : List AV → Option (Tr AV)
  | [.one (.d _ _ (.prod (.int .i64) (.int .i64)) a0), .one (.d _ _ (.prod (.int .i64) (.int .i64)) a1)] =>
    match decide (a0 = ([(1, 3)] : (Ty.list (.prod (.int .i64) (.int .i64))).den)) && decide (a1 = ([(1, 2)] : (Ty.list (.prod (.int .i64) (.int .i64))).den)) with
    | true => some (.ret (.one (.d true true (.prod (.int .i64) (.int .i64)) ([(1, 2)]))))
    | false => none
  | _ => none
set_option maxHeartbeats 4000000 in
theorem mf66_35_ok : FunOK Try.prog 66 mf66_35_g := by
  refine fun_ok (by kernel_rfl) (moW_S85_ok) (L0_ok _) 9 (On := (opens [72])) (fun args t h => ?_)
  unfold mf66_35_g at h
  split at h
  · split at h
    · rename_i hc
      simp only [Bool.and_eq_true, decide_eq_true_eq] at hc
      obtain ⟨rfl, rfl⟩ := hc
      simp only [Option.some.injEq] at h
      subst h
      refine ⟨[.one (.d true true (.prod (.int .i64) (.int .i64)) ([(1, 3)])), .one (.d true true (.prod (.int .i64) (.int .i64)) ([(1, 2)]))], rfl, fun fr w us h => h, fun r hr => ?_⟩
      rw [mf66_35_tree]
      exact hr
    · cases h
  · cases h
noncomputable def moW_S86 : Sums := addS 66 mf66_35_g moW_S85
theorem moW_S86_ok : SumOK Try.prog moW_S86 := addS_ok (mf66_35_ok) (moW_S85_ok)
set_option maxRecDepth 100000 in
theorem mf66_36_tree : evalF Try.prog moW_S86 (opens [72]) L0 9 66 [.one (.d true true (.prod (.int .i64) (.int .i64)) ([(1, 2)])), .one (.d true true (.prod (.int .i64) (.int .i64)) ([(1, 2)]))] = .ret (.one (.d true true (.prod (.int .i64) (.int .i64)) ([(1, 2)]))) := by kernel_rfl
def mf66_36_g : List AV → Option (Tr AV)
  | [.one (.d _ _ (.prod (.int .i64) (.int .i64)) a0), .one (.d _ _ (.prod (.int .i64) (.int .i64)) a1)] =>
    match decide (a0 = ([(1, 2)] : (Ty.list (.prod (.int .i64) (.int .i64))).den)) && decide (a1 = ([(1, 2)] : (Ty.list (.prod (.int .i64) (.int .i64))).den)) with
    | true => some (.ret (.one (.d true true (.prod (.int .i64) (.int .i64)) ([(1, 2)]))))
    | false => none
  | _ => none
set_option maxHeartbeats 4000000 in
theorem mf66_36_ok : FunOK Try.prog 66 mf66_36_g := by
  refine fun_ok (by kernel_rfl) (moW_S86_ok) (L0_ok _) 9 (On := (opens [72])) (fun args t h => ?_)
  unfold mf66_36_g at h
  split at h
  · split at h
    · rename_i hc
      simp only [Bool.and_eq_true, decide_eq_true_eq] at hc
      obtain ⟨rfl, rfl⟩ := hc
      simp only [Option.some.injEq] at h
      subst h
      refine ⟨[.one (.d true true (.prod (.int .i64) (.int .i64)) ([(1, 2)])), .one (.d true true (.prod (.int .i64) (.int .i64)) ([(1, 2)]))], rfl, fun fr w us h => h, fun r hr => ?_⟩
      rw [mf66_36_tree]
      exact hr
    · cases h
  · cases h
noncomputable def moW_S87 : Sums := addS 66 mf66_36_g moW_S86
theorem moW_S87_ok : SumOK Try.prog moW_S87 := addS_ok (mf66_36_ok) (moW_S86_ok)
set_option maxRecDepth 100000 in
theorem mf71_37_tree : evalF Try.prog moW_S87 (opens [72]) L0 9 71 [.one (.d true true (.prod (.int .i64) (.int .i64)) ([(1, 2)])), .one (.v true (.int .i64 (1)))] = .ret (.one (.d true true (.prod (.int .i64) (.int .i64)) ([(0, 3)]))) := by kernel_rfl
def mf71_37_g : List AV → Option (Tr AV)
  | [.one (.d _ _ (.prod (.int .i64) (.int .i64)) a0), .one (.v _ (.int .i64 a1))] =>
    match decide (a0 = ([(1, 2)] : (Ty.list (.prod (.int .i64) (.int .i64))).den)) && decide (a1 = (1 : Int)) with
    | true => some (.ret (.one (.d true true (.prod (.int .i64) (.int .i64)) ([(0, 3)]))))
    | false => none
  | _ => none
set_option maxHeartbeats 4000000 in
theorem mf71_37_ok : FunOK Try.prog 71 mf71_37_g := by
  refine fun_ok (by kernel_rfl) (moW_S87_ok) (L0_ok _) 9 (On := (opens [72])) (fun args t h => ?_)
  unfold mf71_37_g at h
  split at h
  · split at h
    · rename_i hc
      simp only [Bool.and_eq_true, decide_eq_true_eq] at hc
      obtain ⟨rfl, rfl⟩ := hc
      simp only [Option.some.injEq] at h
      subst h
      refine ⟨[.one (.d true true (.prod (.int .i64) (.int .i64)) ([(1, 2)])), .one (.v true (.int .i64 (1)))], rfl, fun fr w us h => h, fun r hr => ?_⟩
      rw [mf71_37_tree]
      exact hr
    · cases h
  · cases h
noncomputable def moW_S88 : Sums := addS 71 mf71_37_g moW_S87
theorem moW_S88_ok : SumOK Try.prog moW_S88 := addS_ok (mf71_37_ok) (moW_S87_ok)
set_option maxRecDepth 100000 in
theorem mf65_38_tree : evalF Try.prog moW_S88 (opens [72]) L0 9 65 [.one (.d true true (.prod (.int .i64) (.int .i64)) ([])), .one (.d true true (.prod (.int .i64) (.int .i64)) ([(0, 3)]))] = .ret (.one (.d true true (.prod (.int .i64) (.int .i64)) ([(0, 3)]))) := by kernel_rfl
def mf65_38_g : List AV → Option (Tr AV)
  | [.one (.d _ _ (.prod (.int .i64) (.int .i64)) a0), .one (.d _ _ (.prod (.int .i64) (.int .i64)) a1)] =>
    match decide (a0 = ([] : (Ty.list (.prod (.int .i64) (.int .i64))).den)) && decide (a1 = ([(0, 3)] : (Ty.list (.prod (.int .i64) (.int .i64))).den)) with
    | true => some (.ret (.one (.d true true (.prod (.int .i64) (.int .i64)) ([(0, 3)]))))
    | false => none
  | _ => none
set_option maxHeartbeats 4000000 in
theorem mf65_38_ok : FunOK Try.prog 65 mf65_38_g := by
  refine fun_ok (by kernel_rfl) (moW_S88_ok) (L0_ok _) 9 (On := (opens [72])) (fun args t h => ?_)
  unfold mf65_38_g at h
  split at h
  · split at h
    · rename_i hc
      simp only [Bool.and_eq_true, decide_eq_true_eq] at hc
      obtain ⟨rfl, rfl⟩ := hc
      simp only [Option.some.injEq] at h
      subst h
      refine ⟨[.one (.d true true (.prod (.int .i64) (.int .i64)) ([])), .one (.d true true (.prod (.int .i64) (.int .i64)) ([(0, 3)]))], rfl, fun fr w us h => h, fun r hr => ?_⟩
      rw [mf65_38_tree]
      exact hr
    · cases h
  · cases h
noncomputable def moW_S89 : Sums := addS 65 mf65_38_g moW_S88
theorem moW_S89_ok : SumOK Try.prog moW_S89 := addS_ok (mf65_38_ok) (moW_S88_ok)
set_option maxRecDepth 100000 in
theorem mf65_39_tree : evalF Try.prog moW_S89 (opens [72]) L0 9 65 [.one (.d true true (.prod (.int .i64) (.int .i64)) ([(0, 3)])), .one (.d true true (.prod (.int .i64) (.int .i64)) ([]))] = .ret (.one (.d true true (.prod (.int .i64) (.int .i64)) ([(0, 3)]))) := by kernel_rfl
def mf65_39_g : List AV → Option (Tr AV)
  | [.one (.d _ _ (.prod (.int .i64) (.int .i64)) a0), .one (.d _ _ (.prod (.int .i64) (.int .i64)) a1)] =>
    match decide (a0 = ([(0, 3)] : (Ty.list (.prod (.int .i64) (.int .i64))).den)) && decide (a1 = ([] : (Ty.list (.prod (.int .i64) (.int .i64))).den)) with
    | true => some (.ret (.one (.d true true (.prod (.int .i64) (.int .i64)) ([(0, 3)]))))
    | false => none
  | _ => none
set_option maxHeartbeats 4000000 in
theorem mf65_39_ok : FunOK Try.prog 65 mf65_39_g := by
  refine fun_ok (by kernel_rfl) (moW_S89_ok) (L0_ok _) 9 (On := (opens [72])) (fun args t h => ?_)
  unfold mf65_39_g at h
  split at h
  · split at h
    · rename_i hc
      simp only [Bool.and_eq_true, decide_eq_true_eq] at hc
      obtain ⟨rfl, rfl⟩ := hc
      simp only [Option.some.injEq] at h
      subst h
      refine ⟨[.one (.d true true (.prod (.int .i64) (.int .i64)) ([(0, 3)])), .one (.d true true (.prod (.int .i64) (.int .i64)) ([]))], rfl, fun fr w us h => h, fun r hr => ?_⟩
      rw [mf65_39_tree]
      exact hr
    · cases h
  · cases h
noncomputable def moW_S90 : Sums := addS 65 mf65_39_g moW_S89
theorem moW_S90_ok : SumOK Try.prog moW_S90 := addS_ok (mf65_39_ok) (moW_S89_ok)
set_option maxRecDepth 100000 in
theorem mf65_40_tree : evalF Try.prog moW_S90 (opens [72]) L0 9 65 [.one (.d true true (.prod (.int .i64) (.int .i64)) ([(0, 3)])), .one (.d true true (.prod (.int .i64) (.int .i64)) ([(0, 3)]))] = .ret (.one (.d true true (.prod (.int .i64) (.int .i64)) ([(0, 3)]))) := by kernel_rfl
def mf65_40_g : List AV → Option (Tr AV)
  | [.one (.d _ _ (.prod (.int .i64) (.int .i64)) a0), .one (.d _ _ (.prod (.int .i64) (.int .i64)) a1)] =>
    match decide (a0 = ([(0, 3)] : (Ty.list (.prod (.int .i64) (.int .i64))).den)) && decide (a1 = ([(0, 3)] : (Ty.list (.prod (.int .i64) (.int .i64))).den)) with
    | true => some (.ret (.one (.d true true (.prod (.int .i64) (.int .i64)) ([(0, 3)]))))
    | false => none
  | _ => none
set_option maxHeartbeats 4000000 in
theorem mf65_40_ok : FunOK Try.prog 65 mf65_40_g := by
  refine fun_ok (by kernel_rfl) (moW_S90_ok) (L0_ok _) 9 (On := (opens [72])) (fun args t h => ?_)
  unfold mf65_40_g at h
  split at h
  · split at h
    · rename_i hc
      simp only [Bool.and_eq_true, decide_eq_true_eq] at hc
      obtain ⟨rfl, rfl⟩ := hc
      simp only [Option.some.injEq] at h
      subst h
      refine ⟨[.one (.d true true (.prod (.int .i64) (.int .i64)) ([(0, 3)])), .one (.d true true (.prod (.int .i64) (.int .i64)) ([(0, 3)]))], rfl, fun fr w us h => h, fun r hr => ?_⟩
      rw [mf65_40_tree]
      exact hr
    · cases h
  · cases h
noncomputable def moW_S91 : Sums := addS 65 mf65_40_g moW_S90
theorem moW_S91_ok : SumOK Try.prog moW_S91 := addS_ok (mf65_40_ok) (moW_S90_ok)
set_option maxRecDepth 100000 in
theorem mf66_41_tree : evalF Try.prog moW_S91 (opens [72]) L0 9 66 [.one (.d true true (.prod (.int .i64) (.int .i64)) ([(1, 3)])), .one (.d true true (.prod (.int .i64) (.int .i64)) ([(1, 3)]))] = .ret (.one (.d true true (.prod (.int .i64) (.int .i64)) ([(1, 3)]))) := by kernel_rfl
def mf66_41_g : List AV → Option (Tr AV)
  | [.one (.d _ _ (.prod (.int .i64) (.int .i64)) a0), .one (.d _ _ (.prod (.int .i64) (.int .i64)) a1)] =>
    match decide (a0 = ([(1, 3)] : (Ty.list (.prod (.int .i64) (.int .i64))).den)) && decide (a1 = ([(1, 3)] : (Ty.list (.prod (.int .i64) (.int .i64))).den)) with
    | true => some (.ret (.one (.d true true (.prod (.int .i64) (.int .i64)) ([(1, 3)]))))
    | false => none
  | _ => none
set_option maxHeartbeats 4000000 in
theorem mf66_41_ok : FunOK Try.prog 66 mf66_41_g := by
  refine fun_ok (by kernel_rfl) (moW_S91_ok) (L0_ok _) 9 (On := (opens [72])) (fun args t h => ?_)
  unfold mf66_41_g at h
  split at h
  · split at h
    · rename_i hc
      simp only [Bool.and_eq_true, decide_eq_true_eq] at hc
      obtain ⟨rfl, rfl⟩ := hc
      simp only [Option.some.injEq] at h
      subst h
      refine ⟨[.one (.d true true (.prod (.int .i64) (.int .i64)) ([(1, 3)])), .one (.d true true (.prod (.int .i64) (.int .i64)) ([(1, 3)]))], rfl, fun fr w us h => h, fun r hr => ?_⟩
      rw [mf66_41_tree]
      exact hr
    · cases h
  · cases h
noncomputable def moW_S92 : Sums := addS 66 mf66_41_g moW_S91
theorem moW_S92_ok : SumOK Try.prog moW_S92 := addS_ok (mf66_41_ok) (moW_S91_ok)
set_option maxRecDepth 100000 in
theorem mf66_42_tree : evalF Try.prog moW_S92 (opens [72]) L0 9 66 [.one (.d true true (.prod (.int .i64) (.int .i64)) ([(0, 1)])), .one (.d true true (.prod (.int .i64) (.int .i64)) ([((-2), 3)]))] = .ret (.one (.d true true (.prod (.int .i64) (.int .i64)) ([(0, 1)]))) := by kernel_rfl
def mf66_42_g : List AV → Option (Tr AV)
  | [.one (.d _ _ (.prod (.int .i64) (.int .i64)) a0), .one (.d _ _ (.prod (.int .i64) (.int .i64)) a1)] =>
    match decide (a0 = ([(0, 1)] : (Ty.list (.prod (.int .i64) (.int .i64))).den)) && decide (a1 = ([((-2), 3)] : (Ty.list (.prod (.int .i64) (.int .i64))).den)) with
    | true => some (.ret (.one (.d true true (.prod (.int .i64) (.int .i64)) ([(0, 1)]))))
    | false => none
  | _ => none
set_option maxHeartbeats 4000000 in
theorem mf66_42_ok : FunOK Try.prog 66 mf66_42_g := by
  refine fun_ok (by kernel_rfl) (moW_S92_ok) (L0_ok _) 9 (On := (opens [72])) (fun args t h => ?_)
  unfold mf66_42_g at h
  split at h
  · split at h
    · rename_i hc
      simp only [Bool.and_eq_true, decide_eq_true_eq] at hc
      obtain ⟨rfl, rfl⟩ := hc
      simp only [Option.some.injEq] at h
      subst h
      refine ⟨[.one (.d true true (.prod (.int .i64) (.int .i64)) ([(0, 1)])), .one (.d true true (.prod (.int .i64) (.int .i64)) ([((-2), 3)]))], rfl, fun fr w us h => h, fun r hr => ?_⟩
      rw [mf66_42_tree]
      exact hr
    · cases h
  · cases h
noncomputable def moW_S93 : Sums := addS 66 mf66_42_g moW_S92
theorem moW_S93_ok : SumOK Try.prog moW_S93 := addS_ok (mf66_42_ok) (moW_S92_ok)
set_option maxRecDepth 100000 in
theorem mf66_43_tree : evalF Try.prog moW_S93 (opens [72]) L0 9 66 [.one (.d true true (.prod (.int .i64) (.int .i64)) ([((-1), 2)])), .one (.d true true (.prod (.int .i64) (.int .i64)) ([((-1), 2)]))] = .ret (.one (.d true true (.prod (.int .i64) (.int .i64)) ([((-1), 2)]))) := by kernel_rfl
def mf66_43_g : List AV → Option (Tr AV)
  | [.one (.d _ _ (.prod (.int .i64) (.int .i64)) a0), .one (.d _ _ (.prod (.int .i64) (.int .i64)) a1)] =>
    match decide (a0 = ([((-1), 2)] : (Ty.list (.prod (.int .i64) (.int .i64))).den)) && decide (a1 = ([((-1), 2)] : (Ty.list (.prod (.int .i64) (.int .i64))).den)) with
    | true => some (.ret (.one (.d true true (.prod (.int .i64) (.int .i64)) ([((-1), 2)]))))
    | false => none
  | _ => none
set_option maxHeartbeats 4000000 in
theorem mf66_43_ok : FunOK Try.prog 66 mf66_43_g := by
  refine fun_ok (by kernel_rfl) (moW_S93_ok) (L0_ok _) 9 (On := (opens [72])) (fun args t h => ?_)
  unfold mf66_43_g at h
  split at h
  · split at h
    · rename_i hc
      simp only [Bool.and_eq_true, decide_eq_true_eq] at hc
      obtain ⟨rfl, rfl⟩ := hc
      simp only [Option.some.injEq] at h
      subst h
      refine ⟨[.one (.d true true (.prod (.int .i64) (.int .i64)) ([((-1), 2)])), .one (.d true true (.prod (.int .i64) (.int .i64)) ([((-1), 2)]))], rfl, fun fr w us h => h, fun r hr => ?_⟩
      rw [mf66_43_tree]
      exact hr
    · cases h
  · cases h
noncomputable def moW_S94 : Sums := addS 66 mf66_43_g moW_S93
theorem moW_S94_ok : SumOK Try.prog moW_S94 := addS_ok (mf66_43_ok) (moW_S93_ok)
set_option maxRecDepth 100000 in
theorem mf78_44_tree : evalF Try.prog moW_S94 (opens [72]) L0 9 78 [.one (.d true true (.prod (.int .i64) (.int .i64)) ([((-2), 3)])), .one (.v true (.int .i64 (1)))] = .ret (.one (.d true true (.prod (.int .i64) (.int .i64)) ([((-1), 2)]))) := by kernel_rfl
def mf78_44_g : List AV → Option (Tr AV)
  | [.one (.d _ _ (.prod (.int .i64) (.int .i64)) a0), .one (.v _ (.int .i64 a1))] =>
    match decide (a0 = ([((-2), 3)] : (Ty.list (.prod (.int .i64) (.int .i64))).den)) && decide (a1 = (1 : Int)) with
    | true => some (.ret (.one (.d true true (.prod (.int .i64) (.int .i64)) ([((-1), 2)]))))
    | false => none
  | _ => none
set_option maxHeartbeats 4000000 in
theorem mf78_44_ok : FunOK Try.prog 78 mf78_44_g := by
  refine fun_ok (by kernel_rfl) (moW_S94_ok) (L0_ok _) 9 (On := (opens [72])) (fun args t h => ?_)
  unfold mf78_44_g at h
  split at h
  · split at h
    · rename_i hc
      simp only [Bool.and_eq_true, decide_eq_true_eq] at hc
      obtain ⟨rfl, rfl⟩ := hc
      simp only [Option.some.injEq] at h
      subst h
      refine ⟨[.one (.d true true (.prod (.int .i64) (.int .i64)) ([((-2), 3)])), .one (.v true (.int .i64 (1)))], rfl, fun fr w us h => h, fun r hr => ?_⟩
      rw [mf78_44_tree]
      exact hr
    · cases h
  · cases h
noncomputable def moW_S95 : Sums := addS 78 mf78_44_g moW_S94
theorem moW_S95_ok : SumOK Try.prog moW_S95 := addS_ok (mf78_44_ok) (moW_S94_ok)
set_option maxRecDepth 100000 in
theorem mf66_45_tree : evalF Try.prog moW_S95 (opens [72]) L0 9 66 [.one (.d true true (.prod (.int .i64) (.int .i64)) ([((-2), 3)])), .one (.d true true (.prod (.int .i64) (.int .i64)) ([(0, 1)]))] = .ret (.one (.d true true (.prod (.int .i64) (.int .i64)) ([(0, 1)]))) := by kernel_rfl
def mf66_45_g : List AV → Option (Tr AV)
  | [.one (.d _ _ (.prod (.int .i64) (.int .i64)) a0), .one (.d _ _ (.prod (.int .i64) (.int .i64)) a1)] =>
    match decide (a0 = ([((-2), 3)] : (Ty.list (.prod (.int .i64) (.int .i64))).den)) && decide (a1 = ([(0, 1)] : (Ty.list (.prod (.int .i64) (.int .i64))).den)) with
    | true => some (.ret (.one (.d true true (.prod (.int .i64) (.int .i64)) ([(0, 1)]))))
    | false => none
  | _ => none
set_option maxHeartbeats 4000000 in
theorem mf66_45_ok : FunOK Try.prog 66 mf66_45_g := by
  refine fun_ok (by kernel_rfl) (moW_S95_ok) (L0_ok _) 9 (On := (opens [72])) (fun args t h => ?_)
  unfold mf66_45_g at h
  split at h
  · split at h
    · rename_i hc
      simp only [Bool.and_eq_true, decide_eq_true_eq] at hc
      obtain ⟨rfl, rfl⟩ := hc
      simp only [Option.some.injEq] at h
      subst h
      refine ⟨[.one (.d true true (.prod (.int .i64) (.int .i64)) ([((-2), 3)])), .one (.d true true (.prod (.int .i64) (.int .i64)) ([(0, 1)]))], rfl, fun fr w us h => h, fun r hr => ?_⟩
      rw [mf66_45_tree]
      exact hr
    · cases h
  · cases h
noncomputable def moW_S96 : Sums := addS 66 mf66_45_g moW_S95
theorem moW_S96_ok : SumOK Try.prog moW_S96 := addS_ok (mf66_45_ok) (moW_S95_ok)
set_option maxRecDepth 100000 in
theorem mf48_46_tree : evalF Try.prog moW_S96 (opens [72]) L0 9 48 [.ag [.d true true (.prod (.int .i64) (.list (.prod (.int .i64) (.int .i64)))) ([((-1), [(0, 1)]), (0, [((-1), 2)]), (1, [(0, 1)])])]] = .ret (.one (.v true (.bool (true)))) := by kernel_rfl
def mf48_46_g : List AV → Option (Tr AV)
  | [.ag [.d _ _ (.prod (.int .i64) (.list (.prod (.int .i64) (.int .i64)))) a0]] =>
    match decide (a0 = ([((-1), [(0, 1)]), (0, [((-1), 2)]), (1, [(0, 1)])] : (Ty.list (.prod (.int .i64) (.list (.prod (.int .i64) (.int .i64))))).den)) with
    | true => some (.ret (.one (.v true (.bool (true)))))
    | false => none
  | _ => none
set_option maxHeartbeats 4000000 in
theorem mf48_46_ok : FunOK Try.prog 48 mf48_46_g := by
  refine fun_ok (by kernel_rfl) (moW_S96_ok) (L0_ok _) 9 (On := (opens [72])) (fun args t h => ?_)
  unfold mf48_46_g at h
  split at h
  · split at h
    · rename_i hc
      simp only [decide_eq_true_eq] at hc
      obtain rfl := hc
      simp only [Option.some.injEq] at h
      subst h
      refine ⟨[.ag [.d true true (.prod (.int .i64) (.list (.prod (.int .i64) (.int .i64)))) ([((-1), [(0, 1)]), (0, [((-1), 2)]), (1, [(0, 1)])])]], rfl, fun fr w us h => h, fun r hr => ?_⟩
      rw [mf48_46_tree]
      exact hr
    · cases h
  · cases h
noncomputable def moW_S97 : Sums := addS 48 mf48_46_g moW_S96
theorem moW_S97_ok : SumOK Try.prog moW_S97 := addS_ok (mf48_46_ok) (moW_S96_ok)
set_option maxRecDepth 100000 in
theorem mf48_47_tree : evalF Try.prog moW_S97 (opens [72]) L0 9 48 [.ag [.d true true (.prod (.int .i64) (.list (.prod (.int .i64) (.int .i64)))) ([(0, [(0, 1), (2, 3)])])]] = .ret (.one (.v true (.bool (true)))) := by kernel_rfl
def mf48_47_g : List AV → Option (Tr AV)
  | [.ag [.d _ _ (.prod (.int .i64) (.list (.prod (.int .i64) (.int .i64)))) a0]] =>
    match decide (a0 = ([(0, [(0, 1), (2, 3)])] : (Ty.list (.prod (.int .i64) (.list (.prod (.int .i64) (.int .i64))))).den)) with
    | true => some (.ret (.one (.v true (.bool (true)))))
    | false => none
  | _ => none
set_option maxHeartbeats 4000000 in
theorem mf48_47_ok : FunOK Try.prog 48 mf48_47_g := by
  refine fun_ok (by kernel_rfl) (moW_S97_ok) (L0_ok _) 9 (On := (opens [72])) (fun args t h => ?_)
  unfold mf48_47_g at h
  split at h
  · split at h
    · rename_i hc
      simp only [decide_eq_true_eq] at hc
      obtain rfl := hc
      simp only [Option.some.injEq] at h
      subst h
      refine ⟨[.ag [.d true true (.prod (.int .i64) (.list (.prod (.int .i64) (.int .i64)))) ([(0, [(0, 1), (2, 3)])])]], rfl, fun fr w us h => h, fun r hr => ?_⟩
      rw [mf48_47_tree]
      exact hr
    · cases h
  · cases h
noncomputable def moW_S98 : Sums := addS 48 mf48_47_g moW_S97
theorem moW_S98_ok : SumOK Try.prog moW_S98 := addS_ok (mf48_47_ok) (moW_S97_ok)
set_option maxRecDepth 100000 in
theorem mf48_48_tree : evalF Try.prog moW_S98 (opens [72]) L0 9 48 [.ag [.d true true (.prod (.int .i64) (.list (.prod (.int .i64) (.int .i64)))) ([((-1), [((-1), 4)]), (0, [((-1), 4)]), (1, [((-1), 4)])])]] = .ret (.one (.v true (.bool (true)))) := by kernel_rfl
def mf48_48_g : List AV → Option (Tr AV)
  | [.ag [.d _ _ (.prod (.int .i64) (.list (.prod (.int .i64) (.int .i64)))) a0]] =>
    match decide (a0 = ([((-1), [((-1), 4)]), (0, [((-1), 4)]), (1, [((-1), 4)])] : (Ty.list (.prod (.int .i64) (.list (.prod (.int .i64) (.int .i64))))).den)) with
    | true => some (.ret (.one (.v true (.bool (true)))))
    | false => none
  | _ => none
set_option maxHeartbeats 4000000 in
theorem mf48_48_ok : FunOK Try.prog 48 mf48_48_g := by
  refine fun_ok (by kernel_rfl) (moW_S98_ok) (L0_ok _) 9 (On := (opens [72])) (fun args t h => ?_)
  unfold mf48_48_g at h
  split at h
  · split at h
    · rename_i hc
      simp only [decide_eq_true_eq] at hc
      obtain rfl := hc
      simp only [Option.some.injEq] at h
      subst h
      refine ⟨[.ag [.d true true (.prod (.int .i64) (.list (.prod (.int .i64) (.int .i64)))) ([((-1), [((-1), 4)]), (0, [((-1), 4)]), (1, [((-1), 4)])])]], rfl, fun fr w us h => h, fun r hr => ?_⟩
      rw [mf48_48_tree]
      exact hr
    · cases h
  · cases h
noncomputable def moW_S99 : Sums := addS 48 mf48_48_g moW_S98
theorem moW_S99_ok : SumOK Try.prog moW_S99 := addS_ok (mf48_48_ok) (moW_S98_ok)
set_option maxRecDepth 100000 in
theorem mf48_49_tree : evalF Try.prog moW_S99 (opens [72]) L0 9 48 [.ag [.d true true (.prod (.int .i64) (.list (.prod (.int .i64) (.int .i64)))) ([((-1), [((-1), 2)]), (0, [((-1), 2)]), (1, [((-1), 2)])])]] = .ret (.one (.v true (.bool (true)))) := by kernel_rfl
def mf48_49_g : List AV → Option (Tr AV)
  | [.ag [.d _ _ (.prod (.int .i64) (.list (.prod (.int .i64) (.int .i64)))) a0]] =>
    match decide (a0 = ([((-1), [((-1), 2)]), (0, [((-1), 2)]), (1, [((-1), 2)])] : (Ty.list (.prod (.int .i64) (.list (.prod (.int .i64) (.int .i64))))).den)) with
    | true => some (.ret (.one (.v true (.bool (true)))))
    | false => none
  | _ => none
set_option maxHeartbeats 4000000 in
theorem mf48_49_ok : FunOK Try.prog 48 mf48_49_g := by
  refine fun_ok (by kernel_rfl) (moW_S99_ok) (L0_ok _) 9 (On := (opens [72])) (fun args t h => ?_)
  unfold mf48_49_g at h
  split at h
  · split at h
    · rename_i hc
      simp only [decide_eq_true_eq] at hc
      obtain rfl := hc
      simp only [Option.some.injEq] at h
      subst h
      refine ⟨[.ag [.d true true (.prod (.int .i64) (.list (.prod (.int .i64) (.int .i64)))) ([((-1), [((-1), 2)]), (0, [((-1), 2)]), (1, [((-1), 2)])])]], rfl, fun fr w us h => h, fun r hr => ?_⟩
      rw [mf48_49_tree]
      exact hr
    · cases h
  · cases h
noncomputable def moW_S100 : Sums := addS 48 mf48_49_g moW_S99
theorem moW_S100_ok : SumOK Try.prog moW_S100 := addS_ok (mf48_49_ok) (moW_S99_ok)
set_option maxRecDepth 100000 in
theorem mf48_50_tree : evalF Try.prog moW_S100 (opens [72]) L0 9 48 [.ag [.d true true (.prod (.int .i64) (.list (.prod (.int .i64) (.int .i64)))) ([(0, [(0, 3)]), (1, [(0, 4)]), (2, [(0, 3)])])]] = .ret (.one (.v true (.bool (true)))) := by kernel_rfl
def mf48_50_g : List AV → Option (Tr AV)
  | [.ag [.d _ _ (.prod (.int .i64) (.list (.prod (.int .i64) (.int .i64)))) a0]] =>
    match decide (a0 = ([(0, [(0, 3)]), (1, [(0, 4)]), (2, [(0, 3)])] : (Ty.list (.prod (.int .i64) (.list (.prod (.int .i64) (.int .i64))))).den)) with
    | true => some (.ret (.one (.v true (.bool (true)))))
    | false => none
  | _ => none
set_option maxHeartbeats 4000000 in
theorem mf48_50_ok : FunOK Try.prog 48 mf48_50_g := by
  refine fun_ok (by kernel_rfl) (moW_S100_ok) (L0_ok _) 9 (On := (opens [72])) (fun args t h => ?_)
  unfold mf48_50_g at h
  split at h
  · split at h
    · rename_i hc
      simp only [decide_eq_true_eq] at hc
      obtain rfl := hc
      simp only [Option.some.injEq] at h
      subst h
      refine ⟨[.ag [.d true true (.prod (.int .i64) (.list (.prod (.int .i64) (.int .i64)))) ([(0, [(0, 3)]), (1, [(0, 4)]), (2, [(0, 3)])])]], rfl, fun fr w us h => h, fun r hr => ?_⟩
      rw [mf48_50_tree]
      exact hr
    · cases h
  · cases h
noncomputable def moW_S101 : Sums := addS 48 mf48_50_g moW_S100
theorem moW_S101_ok : SumOK Try.prog moW_S101 := addS_ok (mf48_50_ok) (moW_S100_ok)
set_option maxRecDepth 100000 in
theorem mf48_51_tree : evalF Try.prog moW_S101 (opens [72]) L0 9 48 [.ag [.d true true (.prod (.int .i64) (.list (.prod (.int .i64) (.int .i64)))) ([(1, [(1, 2)])])]] = .ret (.one (.v true (.bool (true)))) := by kernel_rfl
def mf48_51_g : List AV → Option (Tr AV)
  | [.ag [.d _ _ (.prod (.int .i64) (.list (.prod (.int .i64) (.int .i64)))) a0]] =>
    match decide (a0 = ([(1, [(1, 2)])] : (Ty.list (.prod (.int .i64) (.list (.prod (.int .i64) (.int .i64))))).den)) with
    | true => some (.ret (.one (.v true (.bool (true)))))
    | false => none
  | _ => none
set_option maxHeartbeats 4000000 in
theorem mf48_51_ok : FunOK Try.prog 48 mf48_51_g := by
  refine fun_ok (by kernel_rfl) (moW_S101_ok) (L0_ok _) 9 (On := (opens [72])) (fun args t h => ?_)
  unfold mf48_51_g at h
  split at h
  · split at h
    · rename_i hc
      simp only [decide_eq_true_eq] at hc
      obtain rfl := hc
      simp only [Option.some.injEq] at h
      subst h
      refine ⟨[.ag [.d true true (.prod (.int .i64) (.list (.prod (.int .i64) (.int .i64)))) ([(1, [(1, 2)])])]], rfl, fun fr w us h => h, fun r hr => ?_⟩
      rw [mf48_51_tree]
      exact hr
    · cases h
  · cases h
noncomputable def moW_S102 : Sums := addS 48 mf48_51_g moW_S101
theorem moW_S102_ok : SumOK Try.prog moW_S102 := addS_ok (mf48_51_ok) (moW_S101_ok)
set_option maxRecDepth 100000 in
theorem mf48_52_tree : evalF Try.prog moW_S102 (opens [72]) L0 9 48 [.ag [.d true true (.prod (.int .i64) (.list (.prod (.int .i64) (.int .i64)))) ([(0, [(0, 4)]), (1, [(0, 4)]), (2, [(0, 4)]), (3, [(0, 4)])])]] = .ret (.one (.v true (.bool (true)))) := by kernel_rfl
def mf48_52_g : List AV → Option (Tr AV)
  | [.ag [.d _ _ (.prod (.int .i64) (.list (.prod (.int .i64) (.int .i64)))) a0]] =>
    match decide (a0 = ([(0, [(0, 4)]), (1, [(0, 4)]), (2, [(0, 4)]), (3, [(0, 4)])] : (Ty.list (.prod (.int .i64) (.list (.prod (.int .i64) (.int .i64))))).den)) with
    | true => some (.ret (.one (.v true (.bool (true)))))
    | false => none
  | _ => none
set_option maxHeartbeats 4000000 in
theorem mf48_52_ok : FunOK Try.prog 48 mf48_52_g := by
  refine fun_ok (by kernel_rfl) (moW_S102_ok) (L0_ok _) 9 (On := (opens [72])) (fun args t h => ?_)
  unfold mf48_52_g at h
  split at h
  · split at h
    · rename_i hc
      simp only [decide_eq_true_eq] at hc
      obtain rfl := hc
      simp only [Option.some.injEq] at h
      subst h
      refine ⟨[.ag [.d true true (.prod (.int .i64) (.list (.prod (.int .i64) (.int .i64)))) ([(0, [(0, 4)]), (1, [(0, 4)]), (2, [(0, 4)]), (3, [(0, 4)])])]], rfl, fun fr w us h => h, fun r hr => ?_⟩
      rw [mf48_52_tree]
      exact hr
    · cases h
  · cases h
noncomputable def moW_S103 : Sums := addS 48 mf48_52_g moW_S102
theorem moW_S103_ok : SumOK Try.prog moW_S103 := addS_ok (mf48_52_ok) (moW_S102_ok)
set_option maxRecDepth 100000 in
theorem mf48_53_tree : evalF Try.prog moW_S103 (opens [72]) L0 9 48 [.ag [.d true true (.prod (.int .i64) (.list (.prod (.int .i64) (.int .i64)))) ([((-2), [(0, 1)]), ((-1), [((-1), 2)]), (0, [((-2), 3)]), (1, [((-1), 2)]), (2, [(0, 1)])])]] = .ret (.one (.v true (.bool (true)))) := by kernel_rfl
def mf48_53_g : List AV → Option (Tr AV)
  | [.ag [.d _ _ (.prod (.int .i64) (.list (.prod (.int .i64) (.int .i64)))) a0]] =>
    match decide (a0 = ([((-2), [(0, 1)]), ((-1), [((-1), 2)]), (0, [((-2), 3)]), (1, [((-1), 2)]), (2, [(0, 1)])] : (Ty.list (.prod (.int .i64) (.list (.prod (.int .i64) (.int .i64))))).den)) with
    | true => some (.ret (.one (.v true (.bool (true)))))
    | false => none
  | _ => none
set_option maxHeartbeats 4000000 in
theorem mf48_53_ok : FunOK Try.prog 48 mf48_53_g := by
  refine fun_ok (by kernel_rfl) (moW_S103_ok) (L0_ok _) 9 (On := (opens [72])) (fun args t h => ?_)
  unfold mf48_53_g at h
  split at h
  · split at h
    · rename_i hc
      simp only [decide_eq_true_eq] at hc
      obtain rfl := hc
      simp only [Option.some.injEq] at h
      subst h
      refine ⟨[.ag [.d true true (.prod (.int .i64) (.list (.prod (.int .i64) (.int .i64)))) ([((-2), [(0, 1)]), ((-1), [((-1), 2)]), (0, [((-2), 3)]), (1, [((-1), 2)]), (2, [(0, 1)])])]], rfl, fun fr w us h => h, fun r hr => ?_⟩
      rw [mf48_53_tree]
      exact hr
    · cases h
  · cases h
noncomputable def moW_S104 : Sums := addS 48 mf48_53_g moW_S103
theorem moW_S104_ok : SumOK Try.prog moW_S104 := addS_ok (mf48_53_ok) (moW_S103_ok)
set_option maxRecDepth 100000 in
theorem mf48_54_tree : evalF Try.prog moW_S104 (opens [72]) L0 9 48 [.ag [.d true true (.prod (.int .i64) (.list (.prod (.int .i64) (.int .i64)))) ([(1, [(1, 3)]), (2, [(1, 3)])])]] = .ret (.one (.v true (.bool (true)))) := by kernel_rfl
def mf48_54_g : List AV → Option (Tr AV)
  | [.ag [.d _ _ (.prod (.int .i64) (.list (.prod (.int .i64) (.int .i64)))) a0]] =>
    match decide (a0 = ([(1, [(1, 3)]), (2, [(1, 3)])] : (Ty.list (.prod (.int .i64) (.list (.prod (.int .i64) (.int .i64))))).den)) with
    | true => some (.ret (.one (.v true (.bool (true)))))
    | false => none
  | _ => none
set_option maxHeartbeats 4000000 in
theorem mf48_54_ok : FunOK Try.prog 48 mf48_54_g := by
  refine fun_ok (by kernel_rfl) (moW_S104_ok) (L0_ok _) 9 (On := (opens [72])) (fun args t h => ?_)
  unfold mf48_54_g at h
  split at h
  · split at h
    · rename_i hc
      simp only [decide_eq_true_eq] at hc
      obtain rfl := hc
      simp only [Option.some.injEq] at h
      subst h
      refine ⟨[.ag [.d true true (.prod (.int .i64) (.list (.prod (.int .i64) (.int .i64)))) ([(1, [(1, 3)]), (2, [(1, 3)])])]], rfl, fun fr w us h => h, fun r hr => ?_⟩
      rw [mf48_54_tree]
      exact hr
    · cases h
  · cases h
noncomputable def moW_S105 : Sums := addS 48 mf48_54_g moW_S104
theorem moW_S105_ok : SumOK Try.prog moW_S105 := addS_ok (mf48_54_ok) (moW_S104_ok)
set_option maxRecDepth 100000 in
theorem mf70_55_tree : evalF Try.prog moW_S105 (opens [72]) L0 9 70 [.ag [.d true true (.prod (.int .i64) (.list (.prod (.int .i64) (.int .i64)))) ([((-1), [(0, 1)]), (0, [((-1), 2)]), (1, [(0, 1)])])]] = .ret (.tup [(true, [.v true (.int .i64 ((-1))), .v true (.int .i64 ((-1)))]), (true, [.v true (.int .i64 (1)), .v true (.int .i64 (1))]), (false, [.v true (.bool (true))])]) := by kernel_rfl
def mf70_55_g : List AV → Option (Tr AV)
  | [.ag [.d _ _ (.prod (.int .i64) (.list (.prod (.int .i64) (.int .i64)))) a0]] =>
    match decide (a0 = ([((-1), [(0, 1)]), (0, [((-1), 2)]), (1, [(0, 1)])] : (Ty.list (.prod (.int .i64) (.list (.prod (.int .i64) (.int .i64))))).den)) with
    | true => some (.ret (.tup [(true, [.v true (.int .i64 ((-1))), .v true (.int .i64 ((-1)))]), (true, [.v true (.int .i64 (1)), .v true (.int .i64 (1))]), (false, [.v true (.bool (true))])]))
    | false => none
  | _ => none
set_option maxHeartbeats 4000000 in
theorem mf70_55_ok : FunOK Try.prog 70 mf70_55_g := by
  refine fun_ok (by kernel_rfl) (moW_S105_ok) (L0_ok _) 9 (On := (opens [72])) (fun args t h => ?_)
  unfold mf70_55_g at h
  split at h
  · split at h
    · rename_i hc
      simp only [decide_eq_true_eq] at hc
      obtain rfl := hc
      simp only [Option.some.injEq] at h
      subst h
      refine ⟨[.ag [.d true true (.prod (.int .i64) (.list (.prod (.int .i64) (.int .i64)))) ([((-1), [(0, 1)]), (0, [((-1), 2)]), (1, [(0, 1)])])]], rfl, fun fr w us h => h, fun r hr => ?_⟩
      rw [mf70_55_tree]
      exact hr
    · cases h
  · cases h
noncomputable def moW_S106 : Sums := addS 70 mf70_55_g moW_S105
theorem moW_S106_ok : SumOK Try.prog moW_S106 := addS_ok (mf70_55_ok) (moW_S105_ok)
set_option maxRecDepth 100000 in
theorem mf70_56_tree : evalF Try.prog moW_S106 (opens [72]) L0 9 70 [.ag [.d true true (.prod (.int .i64) (.list (.prod (.int .i64) (.int .i64)))) ([(0, [(0, 1), (2, 3)])])]] = .ret (.tup [(true, [.v true (.int .i64 (0)), .v true (.int .i64 (0))]), (true, [.v true (.int .i64 (2)), .v true (.int .i64 (0))]), (false, [.v true (.bool (true))])]) := by kernel_rfl
def mf70_56_g : List AV → Option (Tr AV)
  | [.ag [.d _ _ (.prod (.int .i64) (.list (.prod (.int .i64) (.int .i64)))) a0]] =>
    match decide (a0 = ([(0, [(0, 1), (2, 3)])] : (Ty.list (.prod (.int .i64) (.list (.prod (.int .i64) (.int .i64))))).den)) with
    | true => some (.ret (.tup [(true, [.v true (.int .i64 (0)), .v true (.int .i64 (0))]), (true, [.v true (.int .i64 (2)), .v true (.int .i64 (0))]), (false, [.v true (.bool (true))])]))
    | false => none
  | _ => none
set_option maxHeartbeats 4000000 in
theorem mf70_56_ok : FunOK Try.prog 70 mf70_56_g := by
  refine fun_ok (by kernel_rfl) (moW_S106_ok) (L0_ok _) 9 (On := (opens [72])) (fun args t h => ?_)
  unfold mf70_56_g at h
  split at h
  · split at h
    · rename_i hc
      simp only [decide_eq_true_eq] at hc
      obtain rfl := hc
      simp only [Option.some.injEq] at h
      subst h
      refine ⟨[.ag [.d true true (.prod (.int .i64) (.list (.prod (.int .i64) (.int .i64)))) ([(0, [(0, 1), (2, 3)])])]], rfl, fun fr w us h => h, fun r hr => ?_⟩
      rw [mf70_56_tree]
      exact hr
    · cases h
  · cases h
noncomputable def moW_S107 : Sums := addS 70 mf70_56_g moW_S106
theorem moW_S107_ok : SumOK Try.prog moW_S107 := addS_ok (mf70_56_ok) (moW_S106_ok)
set_option maxRecDepth 100000 in
theorem mf70_57_tree : evalF Try.prog moW_S107 (opens [72]) L0 9 70 [.ag [.d true true (.prod (.int .i64) (.list (.prod (.int .i64) (.int .i64)))) ([((-1), [((-1), 4)]), (0, [((-1), 4)]), (1, [((-1), 4)])])]] = .ret (.tup [(true, [.v true (.int .i64 ((-1))), .v true (.int .i64 ((-1)))]), (true, [.v true (.int .i64 (3)), .v true (.int .i64 (1))]), (false, [.v true (.bool (true))])]) := by kernel_rfl
def mf70_57_g : List AV → Option (Tr AV)
  | [.ag [.d _ _ (.prod (.int .i64) (.list (.prod (.int .i64) (.int .i64)))) a0]] =>
    match decide (a0 = ([((-1), [((-1), 4)]), (0, [((-1), 4)]), (1, [((-1), 4)])] : (Ty.list (.prod (.int .i64) (.list (.prod (.int .i64) (.int .i64))))).den)) with
    | true => some (.ret (.tup [(true, [.v true (.int .i64 ((-1))), .v true (.int .i64 ((-1)))]), (true, [.v true (.int .i64 (3)), .v true (.int .i64 (1))]), (false, [.v true (.bool (true))])]))
    | false => none
  | _ => none
set_option maxHeartbeats 4000000 in
theorem mf70_57_ok : FunOK Try.prog 70 mf70_57_g := by
  refine fun_ok (by kernel_rfl) (moW_S107_ok) (L0_ok _) 9 (On := (opens [72])) (fun args t h => ?_)
  unfold mf70_57_g at h
  split at h
  · split at h
    · rename_i hc
      simp only [decide_eq_true_eq] at hc
      obtain rfl := hc
      simp only [Option.some.injEq] at h
      subst h
      refine ⟨[.ag [.d true true (.prod (.int .i64) (.list (.prod (.int .i64) (.int .i64)))) ([((-1), [((-1), 4)]), (0, [((-1), 4)]), (1, [((-1), 4)])])]], rfl, fun fr w us h => h, fun r hr => ?_⟩
      rw [mf70_57_tree]
      exact hr
    · cases h
  · cases h
noncomputable def moW_S108 : Sums := addS 70 mf70_57_g moW_S107
theorem moW_S108_ok : SumOK Try.prog moW_S108 := addS_ok (mf70_57_ok) (moW_S107_ok)
set_option maxRecDepth 100000 in
theorem mf70_58_tree : evalF Try.prog moW_S108 (opens [72]) L0 9 70 [.ag [.d true true (.prod (.int .i64) (.list (.prod (.int .i64) (.int .i64)))) ([((-1), [((-1), 2)]), (0, [((-1), 2)]), (1, [((-1), 2)])])]] = .ret (.tup [(true, [.v true (.int .i64 ((-1))), .v true (.int .i64 ((-1)))]), (true, [.v true (.int .i64 (1)), .v true (.int .i64 (1))]), (false, [.v true (.bool (true))])]) := by kernel_rfl
def mf70_58_g : List AV → Option (Tr AV)
  | [.ag [.d _ _ (.prod (.int .i64) (.list (.prod (.int .i64) (.int .i64)))) a0]] =>
    match decide (a0 = ([((-1), [((-1), 2)]), (0, [((-1), 2)]), (1, [((-1), 2)])] : (Ty.list (.prod (.int .i64) (.list (.prod (.int .i64) (.int .i64))))).den)) with
    | true => some (.ret (.tup [(true, [.v true (.int .i64 ((-1))), .v true (.int .i64 ((-1)))]), (true, [.v true (.int .i64 (1)), .v true (.int .i64 (1))]), (false, [.v true (.bool (true))])]))
    | false => none
  | _ => none
set_option maxHeartbeats 4000000 in
theorem mf70_58_ok : FunOK Try.prog 70 mf70_58_g := by
  refine fun_ok (by kernel_rfl) (moW_S108_ok) (L0_ok _) 9 (On := (opens [72])) (fun args t h => ?_)
  unfold mf70_58_g at h
  split at h
  · split at h
    · rename_i hc
      simp only [decide_eq_true_eq] at hc
      obtain rfl := hc
      simp only [Option.some.injEq] at h
      subst h
      refine ⟨[.ag [.d true true (.prod (.int .i64) (.list (.prod (.int .i64) (.int .i64)))) ([((-1), [((-1), 2)]), (0, [((-1), 2)]), (1, [((-1), 2)])])]], rfl, fun fr w us h => h, fun r hr => ?_⟩
      rw [mf70_58_tree]
      exact hr
    · cases h
  · cases h
noncomputable def moW_S109 : Sums := addS 70 mf70_58_g moW_S108
theorem moW_S109_ok : SumOK Try.prog moW_S109 := addS_ok (mf70_58_ok) (moW_S108_ok)
set_option maxRecDepth 100000 in
theorem mf70_59_tree : evalF Try.prog moW_S109 (opens [72]) L0 9 70 [.ag [.d true true (.prod (.int .i64) (.list (.prod (.int .i64) (.int .i64)))) ([(0, [(0, 3)]), (1, [(0, 4)]), (2, [(0, 3)])])]] = .ret (.tup [(true, [.v true (.int .i64 (0)), .v true (.int .i64 (0))]), (true, [.v true (.int .i64 (3)), .v true (.int .i64 (2))]), (false, [.v true (.bool (true))])]) := by kernel_rfl
def mf70_59_g : List AV → Option (Tr AV)
  | [.ag [.d _ _ (.prod (.int .i64) (.list (.prod (.int .i64) (.int .i64)))) a0]] =>
    match decide (a0 = ([(0, [(0, 3)]), (1, [(0, 4)]), (2, [(0, 3)])] : (Ty.list (.prod (.int .i64) (.list (.prod (.int .i64) (.int .i64))))).den)) with
    | true => some (.ret (.tup [(true, [.v true (.int .i64 (0)), .v true (.int .i64 (0))]), (true, [.v true (.int .i64 (3)), .v true (.int .i64 (2))]), (false, [.v true (.bool (true))])]))
    | false => none
  | _ => none
set_option maxHeartbeats 4000000 in
theorem mf70_59_ok : FunOK Try.prog 70 mf70_59_g := by
  refine fun_ok (by kernel_rfl) (moW_S109_ok) (L0_ok _) 9 (On := (opens [72])) (fun args t h => ?_)
  unfold mf70_59_g at h
  split at h
  · split at h
    · rename_i hc
      simp only [decide_eq_true_eq] at hc
      obtain rfl := hc
      simp only [Option.some.injEq] at h
      subst h
      refine ⟨[.ag [.d true true (.prod (.int .i64) (.list (.prod (.int .i64) (.int .i64)))) ([(0, [(0, 3)]), (1, [(0, 4)]), (2, [(0, 3)])])]], rfl, fun fr w us h => h, fun r hr => ?_⟩
      rw [mf70_59_tree]
      exact hr
    · cases h
  · cases h
noncomputable def moW_S110 : Sums := addS 70 mf70_59_g moW_S109
theorem moW_S110_ok : SumOK Try.prog moW_S110 := addS_ok (mf70_59_ok) (moW_S109_ok)
set_option maxRecDepth 100000 in
theorem mf70_60_tree : evalF Try.prog moW_S110 (opens [72]) L0 9 70 [.ag [.d true true (.prod (.int .i64) (.list (.prod (.int .i64) (.int .i64)))) ([(1, [(1, 2)])])]] = .ret (.tup [(true, [.v true (.int .i64 (1)), .v true (.int .i64 (1))]), (true, [.v true (.int .i64 (1)), .v true (.int .i64 (1))]), (false, [.v true (.bool (true))])]) := by kernel_rfl
def mf70_60_g : List AV → Option (Tr AV)
  | [.ag [.d _ _ (.prod (.int .i64) (.list (.prod (.int .i64) (.int .i64)))) a0]] =>
    match decide (a0 = ([(1, [(1, 2)])] : (Ty.list (.prod (.int .i64) (.list (.prod (.int .i64) (.int .i64))))).den)) with
    | true => some (.ret (.tup [(true, [.v true (.int .i64 (1)), .v true (.int .i64 (1))]), (true, [.v true (.int .i64 (1)), .v true (.int .i64 (1))]), (false, [.v true (.bool (true))])]))
    | false => none
  | _ => none
set_option maxHeartbeats 4000000 in
theorem mf70_60_ok : FunOK Try.prog 70 mf70_60_g := by
  refine fun_ok (by kernel_rfl) (moW_S110_ok) (L0_ok _) 9 (On := (opens [72])) (fun args t h => ?_)
  unfold mf70_60_g at h
  split at h
  · split at h
    · rename_i hc
      simp only [decide_eq_true_eq] at hc
      obtain rfl := hc
      simp only [Option.some.injEq] at h
      subst h
      refine ⟨[.ag [.d true true (.prod (.int .i64) (.list (.prod (.int .i64) (.int .i64)))) ([(1, [(1, 2)])])]], rfl, fun fr w us h => h, fun r hr => ?_⟩
      rw [mf70_60_tree]
      exact hr
    · cases h
  · cases h
noncomputable def moW_S111 : Sums := addS 70 mf70_60_g moW_S110
theorem moW_S111_ok : SumOK Try.prog moW_S111 := addS_ok (mf70_60_ok) (moW_S110_ok)
set_option maxRecDepth 100000 in
theorem mf70_61_tree : evalF Try.prog moW_S111 (opens [72]) L0 9 70 [.ag [.d true true (.prod (.int .i64) (.list (.prod (.int .i64) (.int .i64)))) ([(0, [(0, 4)]), (1, [(0, 4)]), (2, [(0, 4)]), (3, [(0, 4)])])]] = .ret (.tup [(true, [.v true (.int .i64 (0)), .v true (.int .i64 (0))]), (true, [.v true (.int .i64 (3)), .v true (.int .i64 (3))]), (false, [.v true (.bool (true))])]) := by kernel_rfl
def mf70_61_g : List AV → Option (Tr AV)
  | [.ag [.d _ _ (.prod (.int .i64) (.list (.prod (.int .i64) (.int .i64)))) a0]] =>
    match decide (a0 = ([(0, [(0, 4)]), (1, [(0, 4)]), (2, [(0, 4)]), (3, [(0, 4)])] : (Ty.list (.prod (.int .i64) (.list (.prod (.int .i64) (.int .i64))))).den)) with
    | true => some (.ret (.tup [(true, [.v true (.int .i64 (0)), .v true (.int .i64 (0))]), (true, [.v true (.int .i64 (3)), .v true (.int .i64 (3))]), (false, [.v true (.bool (true))])]))
    | false => none
  | _ => none
set_option maxHeartbeats 4000000 in
theorem mf70_61_ok : FunOK Try.prog 70 mf70_61_g := by
  refine fun_ok (by kernel_rfl) (moW_S111_ok) (L0_ok _) 9 (On := (opens [72])) (fun args t h => ?_)
  unfold mf70_61_g at h
  split at h
  · split at h
    · rename_i hc
      simp only [decide_eq_true_eq] at hc
      obtain rfl := hc
      simp only [Option.some.injEq] at h
      subst h
      refine ⟨[.ag [.d true true (.prod (.int .i64) (.list (.prod (.int .i64) (.int .i64)))) ([(0, [(0, 4)]), (1, [(0, 4)]), (2, [(0, 4)]), (3, [(0, 4)])])]], rfl, fun fr w us h => h, fun r hr => ?_⟩
      rw [mf70_61_tree]
      exact hr
    · cases h
  · cases h
noncomputable def moW_S112 : Sums := addS 70 mf70_61_g moW_S111
theorem moW_S112_ok : SumOK Try.prog moW_S112 := addS_ok (mf70_61_ok) (moW_S111_ok)
set_option maxRecDepth 100000 in
theorem mf70_62_tree : evalF Try.prog moW_S112 (opens [72]) L0 9 70 [.ag [.d true true (.prod (.int .i64) (.list (.prod (.int .i64) (.int .i64)))) ([((-2), [(0, 1)]), ((-1), [((-1), 2)]), (0, [((-2), 3)]), (1, [((-1), 2)]), (2, [(0, 1)])])]] = .ret (.tup [(true, [.v true (.int .i64 ((-2))), .v true (.int .i64 ((-2)))]), (true, [.v true (.int .i64 (2)), .v true (.int .i64 (2))]), (false, [.v true (.bool (true))])]) := by kernel_rfl
def mf70_62_g : List AV → Option (Tr AV)
  | [.ag [.d _ _ (.prod (.int .i64) (.list (.prod (.int .i64) (.int .i64)))) a0]] =>
    match decide (a0 = ([((-2), [(0, 1)]), ((-1), [((-1), 2)]), (0, [((-2), 3)]), (1, [((-1), 2)]), (2, [(0, 1)])] : (Ty.list (.prod (.int .i64) (.list (.prod (.int .i64) (.int .i64))))).den)) with
    | true => some (.ret (.tup [(true, [.v true (.int .i64 ((-2))), .v true (.int .i64 ((-2)))]), (true, [.v true (.int .i64 (2)), .v true (.int .i64 (2))]), (false, [.v true (.bool (true))])]))
    | false => none
  | _ => none
set_option maxHeartbeats 4000000 in
theorem mf70_62_ok : FunOK Try.prog 70 mf70_62_g := by
  refine fun_ok (by kernel_rfl) (moW_S112_ok) (L0_ok _) 9 (On := (opens [72])) (fun args t h => ?_)
  unfold mf70_62_g at h
  split at h
  · split at h
    · rename_i hc
      simp only [decide_eq_true_eq] at hc
      obtain rfl := hc
      simp only [Option.some.injEq] at h
      subst h
      refine ⟨[.ag [.d true true (.prod (.int .i64) (.list (.prod (.int .i64) (.int .i64)))) ([((-2), [(0, 1)]), ((-1), [((-1), 2)]), (0, [((-2), 3)]), (1, [((-1), 2)]), (2, [(0, 1)])])]], rfl, fun fr w us h => h, fun r hr => ?_⟩
      rw [mf70_62_tree]
      exact hr
    · cases h
  · cases h
noncomputable def moW_S113 : Sums := addS 70 mf70_62_g moW_S112
theorem moW_S113_ok : SumOK Try.prog moW_S113 := addS_ok (mf70_62_ok) (moW_S112_ok)
set_option maxRecDepth 100000 in
theorem mf34_63_tree : evalF Try.prog moW_S113 (opens [72]) L0 9 34 [.ag [.d true true (.prod (.int .i64) (.list (.prod (.int .i64) (.int .i64)))) ([((-1), [(0, 1)]), (0, [((-1), 2)]), (1, [(0, 1)])])], .one (.v true (.int .i64 (1)))] = .ret (.tup [(true, [.d true true (.prod (.int .i64) (.list (.prod (.int .i64) (.int .i64)))) ([((-2), [(0, 1)]), ((-1), [((-1), 2)]), (0, [((-2), 3)]), (1, [((-1), 2)]), (2, [(0, 1)])])]), (false, [.v true (.int .i64 (0))])]) := by kernel_rfl
def mf34_63_g : List AV → Option (Tr AV)
  | [.ag [.d _ _ (.prod (.int .i64) (.list (.prod (.int .i64) (.int .i64)))) a0], .one (.v _ (.int .i64 a1))] =>
    match decide (a0 = ([((-1), [(0, 1)]), (0, [((-1), 2)]), (1, [(0, 1)])] : (Ty.list (.prod (.int .i64) (.list (.prod (.int .i64) (.int .i64))))).den)) && decide (a1 = (1 : Int)) with
    | true => some (.ret (.tup [(true, [.d true true (.prod (.int .i64) (.list (.prod (.int .i64) (.int .i64)))) ([((-2), [(0, 1)]), ((-1), [((-1), 2)]), (0, [((-2), 3)]), (1, [((-1), 2)]), (2, [(0, 1)])])]), (false, [.v true (.int .i64 (0))])]))
    | false => none
  | _ => none
set_option maxHeartbeats 4000000 in
theorem mf34_63_ok : FunOK Try.prog 34 mf34_63_g := by
  refine fun_ok (by kernel_rfl) (moW_S113_ok) (L0_ok _) 9 (On := (opens [72])) (fun args t h => ?_)
  unfold mf34_63_g at h
  split at h
  · split at h
    · rename_i hc
      simp only [Bool.and_eq_true, decide_eq_true_eq] at hc
      obtain ⟨rfl, rfl⟩ := hc
      simp only [Option.some.injEq] at h
      subst h
      refine ⟨[.ag [.d true true (.prod (.int .i64) (.list (.prod (.int .i64) (.int .i64)))) ([((-1), [(0, 1)]), (0, [((-1), 2)]), (1, [(0, 1)])])], .one (.v true (.int .i64 (1)))], rfl, fun fr w us h => h, fun r hr => ?_⟩
      rw [mf34_63_tree]
      exact hr
    · cases h
  · cases h
noncomputable def moW_S114 : Sums := addS 34 mf34_63_g moW_S113
theorem moW_S114_ok : SumOK Try.prog moW_S114 := addS_ok (mf34_63_ok) (moW_S113_ok)
set_option maxRecDepth 100000 in
theorem mf18_64_tree : evalF Try.prog moW_S114 (opens [72]) L0 9 18 [.ag [.d true true (.prod (.int .i64) (.list (.prod (.int .i64) (.int .i64)))) ([(0, [(0, 1), (2, 3)])])], .one (.v true (.int .i64 (1)))] = .ret (.tup [(true, [.d true true (.prod (.int .i64) (.list (.prod (.int .i64) (.int .i64)))) ([(0, [(0, 3)])])]), (false, [.v true (.int .i64 (0))])]) := by kernel_rfl
def mf18_64_g : List AV → Option (Tr AV)
  | [.ag [.d _ _ (.prod (.int .i64) (.list (.prod (.int .i64) (.int .i64)))) a0], .one (.v _ (.int .i64 a1))] =>
    match decide (a0 = ([(0, [(0, 1), (2, 3)])] : (Ty.list (.prod (.int .i64) (.list (.prod (.int .i64) (.int .i64))))).den)) && decide (a1 = (1 : Int)) with
    | true => some (.ret (.tup [(true, [.d true true (.prod (.int .i64) (.list (.prod (.int .i64) (.int .i64)))) ([(0, [(0, 3)])])]), (false, [.v true (.int .i64 (0))])]))
    | false => none
  | _ => none
set_option maxHeartbeats 4000000 in
theorem mf18_64_ok : FunOK Try.prog 18 mf18_64_g := by
  refine fun_ok (by kernel_rfl) (moW_S114_ok) (L0_ok _) 9 (On := (opens [72])) (fun args t h => ?_)
  unfold mf18_64_g at h
  split at h
  · split at h
    · rename_i hc
      simp only [Bool.and_eq_true, decide_eq_true_eq] at hc
      obtain ⟨rfl, rfl⟩ := hc
      simp only [Option.some.injEq] at h
      subst h
      refine ⟨[.ag [.d true true (.prod (.int .i64) (.list (.prod (.int .i64) (.int .i64)))) ([(0, [(0, 1), (2, 3)])])], .one (.v true (.int .i64 (1)))], rfl, fun fr w us h => h, fun r hr => ?_⟩
      rw [mf18_64_tree]
      exact hr
    · cases h
  · cases h
noncomputable def moW_S115 : Sums := addS 18 mf18_64_g moW_S114
theorem moW_S115_ok : SumOK Try.prog moW_S115 := addS_ok (mf18_64_ok) (moW_S114_ok)
set_option maxRecDepth 100000 in
theorem mf21_65_tree : evalF Try.prog moW_S115 (opens [72]) L0 9 21 [.ag [.d true true (.prod (.int .i64) (.list (.prod (.int .i64) (.int .i64)))) ([((-1), [((-1), 2)]), (0, [((-1), 2)]), (1, [((-1), 2)])])], .one (.v true (.int .i64 (1)))] = .ret (.ag [.d true true (.prod (.int .i64) (.list (.prod (.int .i64) (.int .i64)))) ([(0, [(0, 1)])])]) := by kernel_rfl
def mf21_65_g : List AV → Option (Tr AV)
  | [.ag [.d _ _ (.prod (.int .i64) (.list (.prod (.int .i64) (.int .i64)))) a0], .one (.v _ (.int .i64 a1))] =>
    match decide (a0 = ([((-1), [((-1), 2)]), (0, [((-1), 2)]), (1, [((-1), 2)])] : (Ty.list (.prod (.int .i64) (.list (.prod (.int .i64) (.int .i64))))).den)) && decide (a1 = (1 : Int)) with
    | true => some (.ret (.ag [.d true true (.prod (.int .i64) (.list (.prod (.int .i64) (.int .i64)))) ([(0, [(0, 1)])])]))
    | false => none
  | _ => none
set_option maxHeartbeats 4000000 in
theorem mf21_65_ok : FunOK Try.prog 21 mf21_65_g := by
  refine fun_ok (by kernel_rfl) (moW_S115_ok) (L0_ok _) 9 (On := (opens [72])) (fun args t h => ?_)
  unfold mf21_65_g at h
  split at h
  · split at h
    · rename_i hc
      simp only [Bool.and_eq_true, decide_eq_true_eq] at hc
      obtain ⟨rfl, rfl⟩ := hc
      simp only [Option.some.injEq] at h
      subst h
      refine ⟨[.ag [.d true true (.prod (.int .i64) (.list (.prod (.int .i64) (.int .i64)))) ([((-1), [((-1), 2)]), (0, [((-1), 2)]), (1, [((-1), 2)])])], .one (.v true (.int .i64 (1)))], rfl, fun fr w us h => h, fun r hr => ?_⟩
      rw [mf21_65_tree]
      exact hr
    · cases h
  · cases h
noncomputable def moW_S116 : Sums := addS 21 mf21_65_g moW_S115
theorem moW_S116_ok : SumOK Try.prog moW_S116 := addS_ok (mf21_65_ok) (moW_S115_ok)
set_option maxRecDepth 100000 in
theorem mf23_66_tree : evalF Try.prog moW_S116 (opens [72]) L0 9 23 [.ag [.d true true (.prod (.int .i64) (.list (.prod (.int .i64) (.int .i64)))) ([(0, [(0, 3)]), (1, [(0, 4)]), (2, [(0, 3)])])], .one (.v true (.int .i64 (1)))] = .ret (.ag [.d true true (.prod (.int .i64) (.list (.prod (.int .i64) (.int .i64)))) ([(0, [(0, 3)]), (1, [(0, 3)]), (2, [(0, 3)])])]) := by kernel_rfl
def mf23_66_g : List AV → Option (Tr AV)
  | [.ag [.d _ _ (.prod (.int .i64) (.list (.prod (.int .i64) (.int .i64)))) a0], .one (.v _ (.int .i64 a1))] =>
    match decide (a0 = ([(0, [(0, 3)]), (1, [(0, 4)]), (2, [(0, 3)])] : (Ty.list (.prod (.int .i64) (.list (.prod (.int .i64) (.int .i64))))).den)) && decide (a1 = (1 : Int)) with
    | true => some (.ret (.ag [.d true true (.prod (.int .i64) (.list (.prod (.int .i64) (.int .i64)))) ([(0, [(0, 3)]), (1, [(0, 3)]), (2, [(0, 3)])])]))
    | false => none
  | _ => none
set_option maxHeartbeats 4000000 in
theorem mf23_66_ok : FunOK Try.prog 23 mf23_66_g := by
  refine fun_ok (by kernel_rfl) (moW_S116_ok) (L0_ok _) 9 (On := (opens [72])) (fun args t h => ?_)
  unfold mf23_66_g at h
  split at h
  · split at h
    · rename_i hc
      simp only [Bool.and_eq_true, decide_eq_true_eq] at hc
      obtain ⟨rfl, rfl⟩ := hc
      simp only [Option.some.injEq] at h
      subst h
      refine ⟨[.ag [.d true true (.prod (.int .i64) (.list (.prod (.int .i64) (.int .i64)))) ([(0, [(0, 3)]), (1, [(0, 4)]), (2, [(0, 3)])])], .one (.v true (.int .i64 (1)))], rfl, fun fr w us h => h, fun r hr => ?_⟩
      rw [mf23_66_tree]
      exact hr
    · cases h
  · cases h
noncomputable def moW_S117 : Sums := addS 23 mf23_66_g moW_S116
theorem moW_S117_ok : SumOK Try.prog moW_S117 := addS_ok (mf23_66_ok) (moW_S116_ok)
set_option maxRecDepth 100000 in
theorem mf25_67_tree : evalF Try.prog moW_S117 (opens [72]) L0 9 25 [.ag [.d true true (.prod (.int .i64) (.list (.prod (.int .i64) (.int .i64)))) ([(0, [(0, 4)]), (1, [(0, 4)]), (2, [(0, 4)]), (3, [(0, 4)])])]] = .ret (.ag [.d true true (.prod (.int .i64) (.list (.prod (.int .i64) (.int .i64)))) ([(0, [(0, 4)]), (1, [(0, 1), (3, 4)]), (2, [(0, 1), (3, 4)]), (3, [(0, 4)])])]) := by kernel_rfl
def mf25_67_g : List AV → Option (Tr AV)
  | [.ag [.d _ _ (.prod (.int .i64) (.list (.prod (.int .i64) (.int .i64)))) a0]] =>
    match decide (a0 = ([(0, [(0, 4)]), (1, [(0, 4)]), (2, [(0, 4)]), (3, [(0, 4)])] : (Ty.list (.prod (.int .i64) (.list (.prod (.int .i64) (.int .i64))))).den)) with
    | true => some (.ret (.ag [.d true true (.prod (.int .i64) (.list (.prod (.int .i64) (.int .i64)))) ([(0, [(0, 4)]), (1, [(0, 1), (3, 4)]), (2, [(0, 1), (3, 4)]), (3, [(0, 4)])])]))
    | false => none
  | _ => none
set_option maxHeartbeats 4000000 in
theorem mf25_67_ok : FunOK Try.prog 25 mf25_67_g := by
  refine fun_ok (by kernel_rfl) (moW_S117_ok) (L0_ok _) 9 (On := (opens [72])) (fun args t h => ?_)
  unfold mf25_67_g at h
  split at h
  · split at h
    · rename_i hc
      simp only [decide_eq_true_eq] at hc
      obtain rfl := hc
      simp only [Option.some.injEq] at h
      subst h
      refine ⟨[.ag [.d true true (.prod (.int .i64) (.list (.prod (.int .i64) (.int .i64)))) ([(0, [(0, 4)]), (1, [(0, 4)]), (2, [(0, 4)]), (3, [(0, 4)])])]], rfl, fun fr w us h => h, fun r hr => ?_⟩
      rw [mf25_67_tree]
      exact hr
    · cases h
  · cases h
noncomputable def moW_S118 : Sums := addS 25 mf25_67_g moW_S117
theorem moW_S118_ok : SumOK Try.prog moW_S118 := addS_ok (mf25_67_ok) (moW_S117_ok)
set_option maxRecDepth 100000 in
theorem mf36_68_tree : evalF Try.prog moW_S118 (opens [72]) L0 9 36 [.ag [.d true true (.prod (.int .i64) (.list (.prod (.int .i64) (.int .i64)))) ([((-2), [(0, 1)]), ((-1), [((-1), 2)]), (0, [((-2), 3)]), (1, [((-1), 2)]), (2, [(0, 1)])])], .one (.v true (.int .i64 (1)))] = .ret (.ag [.d true true (.prod (.int .i64) (.list (.prod (.int .i64) (.int .i64)))) ([((-1), [(0, 1)]), (0, [((-1), 2)]), (1, [(0, 1)])])]) := by kernel_rfl
def mf36_68_g : List AV → Option (Tr AV)
  | [.ag [.d _ _ (.prod (.int .i64) (.list (.prod (.int .i64) (.int .i64)))) a0], .one (.v _ (.int .i64 a1))] =>
    match decide (a0 = ([((-2), [(0, 1)]), ((-1), [((-1), 2)]), (0, [((-2), 3)]), (1, [((-1), 2)]), (2, [(0, 1)])] : (Ty.list (.prod (.int .i64) (.list (.prod (.int .i64) (.int .i64))))).den)) && decide (a1 = (1 : Int)) with
    | true => some (.ret (.ag [.d true true (.prod (.int .i64) (.list (.prod (.int .i64) (.int .i64)))) ([((-1), [(0, 1)]), (0, [((-1), 2)]), (1, [(0, 1)])])]))
    | false => none
  | _ => none
set_option maxHeartbeats 4000000 in
theorem mf36_68_ok : FunOK Try.prog 36 mf36_68_g := by
  refine fun_ok (by kernel_rfl) (moW_S118_ok) (L0_ok _) 9 (On := (opens [72])) (fun args t h => ?_)
  unfold mf36_68_g at h
  split at h
  · split at h
    · rename_i hc
      simp only [Bool.and_eq_true, decide_eq_true_eq] at hc
      obtain ⟨rfl, rfl⟩ := hc
      simp only [Option.some.injEq] at h
      subst h
      refine ⟨[.ag [.d true true (.prod (.int .i64) (.list (.prod (.int .i64) (.int .i64)))) ([((-2), [(0, 1)]), ((-1), [((-1), 2)]), (0, [((-2), 3)]), (1, [((-1), 2)]), (2, [(0, 1)])])], .one (.v true (.int .i64 (1)))], rfl, fun fr w us h => h, fun r hr => ?_⟩
      rw [mf36_68_tree]
      exact hr
    · cases h
  · cases h
noncomputable def moW_S119 : Sums := addS 36 mf36_68_g moW_S118
theorem moW_S119_ok : SumOK Try.prog moW_S119 := addS_ok (mf36_68_ok) (moW_S118_ok)
set_option maxRecDepth 100000 in
theorem aw15_tree : evalF Try.prog moW_S119 (opens [72]) L0 9 15 [] = .ret (.one (.v true (.bool true))) := by kernel_rfl
end Go.Proofs.Ytdoodmapmhibhaa
