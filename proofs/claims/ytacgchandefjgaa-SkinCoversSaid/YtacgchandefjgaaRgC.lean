/-
  Regions: equality; sweeps.
-/
import Derived.Test.YtacgchandefjgaaProg
import Derived.Test.YtacgchandefjgaaFvX
import Derived.Test.YtacgchandefjgaaFvZ
import Derived.Test.YtacgchandefjgaaAut
import Derived.Test.YtacgchandefjgaaRd
import Derived.Test.YtacgchandefjgaaPl
import Derived.Test.YtacgchandefjgaaScn
import Derived.Test.YtacgchandefjgaaMor
import Derived.Test.YtacgchandefjgaaRgB
namespace Go.Proofs.Ytacgchandefjgaa
open Go
set_option maxRecDepth 100000 in
theorem bofc_tree (L : (Ty.list (.prod (.int .i64) (.int .i64))).den) (n : Int) : evalF Try.prog rgB_S62 (opens []) rgB_L58 9 118 [.one (.d false false (.prod (.int .i64) (.int .i64)) L), .one (.v false (.int .i64 n))] = .br ((bif decide (n ≥ IntKind.wrap .i64 ((2 : Int) * (↑(List.length L) : Int))) then true else (bif Int.tmod n (2 : Int) == (0 : Int) then (decide ((0 : Int) ≤ IntKind.wrap .i64 (Int.tdiv n (2 : Int))) && decide (IntKind.wrap .i64 (Int.tdiv n (2 : Int)) < (↑(List.length L) : Int))) else (decide ((0 : Int) ≤ IntKind.wrap .i64 (Int.tdiv n (2 : Int))) && decide (IntKind.wrap .i64 (Int.tdiv n (2 : Int)) < (↑(List.length L) : Int)))))) (.ret (.one (.v false (.int .i64 (bif decide (n ≥ IntKind.wrap .i64 ((2 : Int) * (↑(List.length L) : Int))) then (9223372036854775807 : Int) else bif Int.tmod n (2 : Int) == (0 : Int) then Prod.fst (el_ii L (IntKind.wrap .i64 (Int.tdiv n (2 : Int)))) else Prod.snd (el_ii L (IntKind.wrap .i64 (Int.tdiv n (2 : Int))))))))) (.bad 116) := by kernel_rfl
theorem bofc_val (L : (Ty.list (.prod (.int .i64) (.int .i64))).den) (n : Int) (hc : (decide (0 ≤ n) && (decide (n ≤ 1000000) && decide (L.length ≤ 100000))) = true) : (.br ((bif decide (n ≥ IntKind.wrap .i64 ((2 : Int) * (↑(List.length L) : Int))) then true else (bif Int.tmod n (2 : Int) == (0 : Int) then (decide ((0 : Int) ≤ IntKind.wrap .i64 (Int.tdiv n (2 : Int))) && decide (IntKind.wrap .i64 (Int.tdiv n (2 : Int)) < (↑(List.length L) : Int))) else (decide ((0 : Int) ≤ IntKind.wrap .i64 (Int.tdiv n (2 : Int))) && decide (IntKind.wrap .i64 (Int.tdiv n (2 : Int)) < (↑(List.length L) : Int)))))) (.ret (.one (.v false (.int .i64 (bif decide (n ≥ IntKind.wrap .i64 ((2 : Int) * (↑(List.length L) : Int))) then (9223372036854775807 : Int) else bif Int.tmod n (2 : Int) == (0 : Int) then Prod.fst (el_ii L (IntKind.wrap .i64 (Int.tdiv n (2 : Int)))) else Prod.snd (el_ii L (IntKind.wrap .i64 (Int.tdiv n (2 : Int))))))))) (.bad 116) : Tr AV).val = some (.one (.v false (.int .i64 (bdR L n.toNat)))) := by
  obtain ⟨K, rfl⟩ : ∃ K : Rl, K = L := ⟨L, rfl⟩
  simp only [Bool.and_eq_true, decide_eq_true_eq] at hc
  obtain ⟨h0, h1, hn⟩ := hc
  have hn : K.length ≤ 100000 := hn
  obtain ⟨k, rfl⟩ : ∃ k : Nat, n = (k : Int) := ⟨n.toNat, by omega⟩
  have w1 : IntKind.wrap .i64 ((2 : Int) * (K.length : Int)) = 2 * (K.length : Int) := wid (by omega) (by omega)
  have e1 : Int.tdiv (k : Int) (2 : Int) = ((k / 2 : Nat) : Int) := by rw [Int.tdiv_eq_ediv_of_nonneg (by omega)]; omega
  have e2 : Int.tmod (k : Int) (2 : Int) = ((k % 2 : Nat) : Int) := by rw [Int.tmod_eq_emod_of_nonneg (by omega)]; omega
  have w2 : IntKind.wrap .i64 ((k / 2 : Nat) : Int) = ((k / 2 : Nat) : Int) := wid (by omega) (by omega)
  unfold bdR
  show cond _ _ _ = _
  rw [w1, e1, e2, w2, Int.toNat_natCast]
  by_cases hk : 2 * K.length ≤ k
  · have d : decide ((k : Int) ≥ 2 * (K.length : Int)) = true := decide_eq_true (by omega)
    rw [if_pos hk]
    simp only [d, cond_true, Tr.val]
  · have d : decide ((k : Int) ≥ 2 * (K.length : Int)) = false := decide_eq_false (by omega)
    have hlt : k / 2 < K.length := by omega
    have e3 : K.getD (k / 2) (0, 0) = K[k / 2] := by rw [List.getD, List.getElem?_eq_getElem hlt]; rfl
    rw [if_neg hk, e3]
    by_cases hz : k % 2 = 0
    · have b : (((k % 2 : Nat) : Int) == (0 : Int)) = true := by rw [hz]; rfl
      rw [if_pos hz]
      simp only [d, b, nn_t, lt_t hlt, el_r hlt, Bool.and_self, cond_true, cond_false, Tr.val]
    · have b : (((k % 2 : Nat) : Int) == (0 : Int)) = false := by rw [beq_eq_false_iff_ne]; omega
      rw [if_neg hz]
      simp only [d, b, nn_t, lt_t hlt, el_r hlt, Bool.and_self, cond_true, cond_false, Tr.val]
noncomputable def bofc_g : List AV → Option (Tr AV)
  | [.one (.d _ _ (.prod (.int .i64) (.int .i64)) L), .one (.v _ (.int .i64 n))] => some (.br (decide (0 ≤ n) && (decide (n ≤ 1000000) && decide (L.length ≤ 100000))) (.ret (.one (.v false (.int .i64 (bdR L n.toNat))))) (.bad 900))
  | _ => none
set_option maxHeartbeats 4000000 in
theorem bofc_ok : FunOK Try.prog 118 bofc_g := by
  refine fun_ok (by kernel_rfl) (rgB_S62_ok) (rgB_L58_ok) 9 (On := (opens [])) (fun args t h => ?_)
  unfold bofc_g at h
  split at h
  · rename_i _ _ L _ n
    simp only [Option.some.injEq] at h
    subst h
    refine ⟨[.one (.d false false (.prod (.int .i64) (.int .i64)) L), .one (.v false (.int .i64 n))], rfl, fun fr w us h => h, fun r hr => ?_⟩
    obtain ⟨hc, hr⟩ := br_bad hr
    simp only [Tr.val, Option.some.injEq] at hr
    subst hr
    rw [bofc_tree]
    exact bofc_val L n hc
  · cases h
noncomputable def rgC_S51 : Sums := addS 118 bofc_g rgB_S62
theorem rgC_S51_ok : SumOK Try.prog rgC_S51 := addS_ok (bofc_ok) (rgB_S62_ok)
theorem odd_t (n : Nat) : (Int.tmod (n : Int) (2 : Int) == (1 : Int)) = decide (n % 2 = 1) := by
  have e : Int.tmod (n : Int) (2 : Int) = ((n % 2 : Nat) : Int) := by rw [Int.tmod_eq_emod_of_nonneg (by omega)]; omega
  rw [e, Bool.eq_iff_iff, beq_iff_eq, decide_eq_true_eq]
  omega
abbrev swu_U : Type := (Ty.list (.prod (.int .i64) (.int .i64))).den × (Ty.list (.prod (.int .i64) (.int .i64))).den
abbrev swu_V : Type := Int × Int × Int × Bool × (Ty.list (.prod (.int .i64) (.int .i64))).den
noncomputable def swu_St (u : swu_U) (v : swu_V) : Stt := ⟨[.one (.d false false (.prod (.int .i64) (.int .i64)) u.1), .one (.d false false (.prod (.int .i64) (.int .i64)) u.2), .one .junk, .one .junk, .one (.v false (Value.slice none (0 : Nat) (0 : Nat))), .one (.p 9 0), .one (.s false 980 0 (none)), .one (.v false (.int .i64 v.1)), .one (.v false (.int .i64 v.2.1)), .one (.v false (.int .i64 v.2.2.1)), .one (.v false (.bool v.2.2.2.1)), .one .junk, .one .junk, .one .junk, .one .junk, .one .junk, .one .junk, .one .junk, .one .junk, .one .junk, .one .junk, .one .junk, .one .junk, .one .junk, .one .junk, .one .junk, .one .junk, .one .junk, .one .junk, .one .junk, .one .junk, .one .junk, .one .junk, .one .junk, .one .junk, .one .junk, .one .junk, .one .junk, .one .junk, .one .junk, .one .junk, .one .junk, .one .junk, .one .junk, .one .junk, .one .junk, .one .junk, .one .junk, .one .junk, .one .junk, .one .junk, .one .junk, .one .junk, .one .junk, .one .junk, .one .junk, .one .junk, .one .junk, .one .junk, .one .junk, .one .junk, .one .junk, .one .junk, .one .junk, .one .junk, .one .junk, .one .junk, .one .junk, .one .junk, .one .junk, .one .junk, .one .junk, .one .junk, .one .junk, .one .junk, .one .junk, .one .junk, .one .junk, .one .junk, .one .junk, .one .junk, .one .junk], [(9, .cells []), (980, .row true false false 69 (.prod (.int .i64) (.int .i64)) v.2.2.2.2)], 1015⟩
noncomputable def swu_step (u : swu_U) (v : swu_V) : Tr (swu_V ⊕ (Nat × swu_V)) :=
  match u, v with
  | (q0, q1), (q2, q3, q4, q5, q6) => .br (bif decide (q2 < IntKind.wrap .i64 ((2 : Int) * (↑(List.length q0) : Int))) then true else decide (q3 < IntKind.wrap .i64 ((2 : Int) * (↑(List.length q1) : Int)))) (.br (decide ((0 : Int) ≤ q2) && (decide (q2 ≤ (1000000 : Int)) && decide (List.length q0 ≤ (100000 : Nat)))) (.br (decide ((0 : Int) ≤ q3) && (decide (q3 ≤ (1000000 : Int)) && decide (List.length q1 ≤ (100000 : Nat)))) (.br (bdR q0 (Int.toNat q2) == if bdR q1 (Int.toNat q3) < bdR q0 (Int.toNat q2) then bdR q1 (Int.toNat q3) else bdR q0 (Int.toNat q2)) (.br (bdR q1 (Int.toNat q3) == if bdR q1 (Int.toNat q3) < bdR q0 (Int.toNat q2) then bdR q1 (Int.toNat q3) else bdR q0 (Int.toNat q2)) (.br (bif bif Int.tmod (IntKind.wrap .i64 (q2 + (1 : Int))) (2 : Int) == (1 : Int) then true else Int.tmod (IntKind.wrap .i64 (q3 + (1 : Int))) (2 : Int) == (1 : Int) then !q5 else false) (.br (bif q5 then !bif Int.tmod (IntKind.wrap .i64 (q2 + (1 : Int))) (2 : Int) == (1 : Int) then true else Int.tmod (IntKind.wrap .i64 (q3 + (1 : Int))) (2 : Int) == (1 : Int) else false) (.br (decide ((List.length q6 + (1 : Nat)) * (16 : Nat) ≤ maxNew) && decide (List.length q6 + (1 : Nat) ≤ maxLen)) (.ret (.inl (IntKind.wrap .i64 (q2 + (1 : Int)), IntKind.wrap .i64 (q3 + (1 : Int)), if bdR q1 (Int.toNat q3) < bdR q0 (Int.toNat q2) then bdR q1 (Int.toNat q3) else bdR q0 (Int.toNat q2), bif Int.tmod (IntKind.wrap .i64 (q2 + (1 : Int))) (2 : Int) == (1 : Int) then true else Int.tmod (IntKind.wrap .i64 (q3 + (1 : Int))) (2 : Int) == (1 : Int), q6 ++ [(if bdR q1 (Int.toNat q3) < bdR q0 (Int.toNat q2) then bdR q1 (Int.toNat q3) else bdR q0 (Int.toNat q2), if bdR q1 (Int.toNat q3) < bdR q0 (Int.toNat q2) then bdR q1 (Int.toNat q3) else bdR q0 (Int.toNat q2))]))) (.bad 71)) (.ret (.inl (IntKind.wrap .i64 (q2 + (1 : Int)), IntKind.wrap .i64 (q3 + (1 : Int)), if bdR q1 (Int.toNat q3) < bdR q0 (Int.toNat q2) then bdR q1 (Int.toNat q3) else bdR q0 (Int.toNat q2), bif Int.tmod (IntKind.wrap .i64 (q2 + (1 : Int))) (2 : Int) == (1 : Int) then true else Int.tmod (IntKind.wrap .i64 (q3 + (1 : Int))) (2 : Int) == (1 : Int), q6)))) (.br (bif q5 then !bif Int.tmod (IntKind.wrap .i64 (q2 + (1 : Int))) (2 : Int) == (1 : Int) then true else Int.tmod (IntKind.wrap .i64 (q3 + (1 : Int))) (2 : Int) == (1 : Int) else false) (.br (decide ((List.length q6 + (1 : Nat)) * (16 : Nat) ≤ maxNew) && decide (List.length q6 + (1 : Nat) ≤ maxLen)) (.ret (.inl (IntKind.wrap .i64 (q2 + (1 : Int)), IntKind.wrap .i64 (q3 + (1 : Int)), q4, bif Int.tmod (IntKind.wrap .i64 (q2 + (1 : Int))) (2 : Int) == (1 : Int) then true else Int.tmod (IntKind.wrap .i64 (q3 + (1 : Int))) (2 : Int) == (1 : Int), q6 ++ [(q4, if bdR q1 (Int.toNat q3) < bdR q0 (Int.toNat q2) then bdR q1 (Int.toNat q3) else bdR q0 (Int.toNat q2))]))) (.bad 71)) (.ret (.inl (IntKind.wrap .i64 (q2 + (1 : Int)), IntKind.wrap .i64 (q3 + (1 : Int)), q4, bif Int.tmod (IntKind.wrap .i64 (q2 + (1 : Int))) (2 : Int) == (1 : Int) then true else Int.tmod (IntKind.wrap .i64 (q3 + (1 : Int))) (2 : Int) == (1 : Int), q6))))) (.br (bif bif Int.tmod (IntKind.wrap .i64 (q2 + (1 : Int))) (2 : Int) == (1 : Int) then true else Int.tmod q3 (2 : Int) == (1 : Int) then !q5 else false) (.br (bif q5 then !bif Int.tmod (IntKind.wrap .i64 (q2 + (1 : Int))) (2 : Int) == (1 : Int) then true else Int.tmod q3 (2 : Int) == (1 : Int) else false) (.br (decide ((List.length q6 + (1 : Nat)) * (16 : Nat) ≤ maxNew) && decide (List.length q6 + (1 : Nat) ≤ maxLen)) (.ret (.inl (IntKind.wrap .i64 (q2 + (1 : Int)), q3, if bdR q1 (Int.toNat q3) < bdR q0 (Int.toNat q2) then bdR q1 (Int.toNat q3) else bdR q0 (Int.toNat q2), bif Int.tmod (IntKind.wrap .i64 (q2 + (1 : Int))) (2 : Int) == (1 : Int) then true else Int.tmod q3 (2 : Int) == (1 : Int), q6 ++ [(if bdR q1 (Int.toNat q3) < bdR q0 (Int.toNat q2) then bdR q1 (Int.toNat q3) else bdR q0 (Int.toNat q2), if bdR q1 (Int.toNat q3) < bdR q0 (Int.toNat q2) then bdR q1 (Int.toNat q3) else bdR q0 (Int.toNat q2))]))) (.bad 71)) (.ret (.inl (IntKind.wrap .i64 (q2 + (1 : Int)), q3, if bdR q1 (Int.toNat q3) < bdR q0 (Int.toNat q2) then bdR q1 (Int.toNat q3) else bdR q0 (Int.toNat q2), bif Int.tmod (IntKind.wrap .i64 (q2 + (1 : Int))) (2 : Int) == (1 : Int) then true else Int.tmod q3 (2 : Int) == (1 : Int), q6)))) (.br (bif q5 then !bif Int.tmod (IntKind.wrap .i64 (q2 + (1 : Int))) (2 : Int) == (1 : Int) then true else Int.tmod q3 (2 : Int) == (1 : Int) else false) (.br (decide ((List.length q6 + (1 : Nat)) * (16 : Nat) ≤ maxNew) && decide (List.length q6 + (1 : Nat) ≤ maxLen)) (.ret (.inl (IntKind.wrap .i64 (q2 + (1 : Int)), q3, q4, bif Int.tmod (IntKind.wrap .i64 (q2 + (1 : Int))) (2 : Int) == (1 : Int) then true else Int.tmod q3 (2 : Int) == (1 : Int), q6 ++ [(q4, if bdR q1 (Int.toNat q3) < bdR q0 (Int.toNat q2) then bdR q1 (Int.toNat q3) else bdR q0 (Int.toNat q2))]))) (.bad 71)) (.ret (.inl (IntKind.wrap .i64 (q2 + (1 : Int)), q3, q4, bif Int.tmod (IntKind.wrap .i64 (q2 + (1 : Int))) (2 : Int) == (1 : Int) then true else Int.tmod q3 (2 : Int) == (1 : Int), q6)))))) (.br (bdR q1 (Int.toNat q3) == if bdR q1 (Int.toNat q3) < bdR q0 (Int.toNat q2) then bdR q1 (Int.toNat q3) else bdR q0 (Int.toNat q2)) (.br (bif bif Int.tmod q2 (2 : Int) == (1 : Int) then true else Int.tmod (IntKind.wrap .i64 (q3 + (1 : Int))) (2 : Int) == (1 : Int) then !q5 else false) (.br (bif q5 then !bif Int.tmod q2 (2 : Int) == (1 : Int) then true else Int.tmod (IntKind.wrap .i64 (q3 + (1 : Int))) (2 : Int) == (1 : Int) else false) (.br (decide ((List.length q6 + (1 : Nat)) * (16 : Nat) ≤ maxNew) && decide (List.length q6 + (1 : Nat) ≤ maxLen)) (.ret (.inl (q2, IntKind.wrap .i64 (q3 + (1 : Int)), if bdR q1 (Int.toNat q3) < bdR q0 (Int.toNat q2) then bdR q1 (Int.toNat q3) else bdR q0 (Int.toNat q2), bif Int.tmod q2 (2 : Int) == (1 : Int) then true else Int.tmod (IntKind.wrap .i64 (q3 + (1 : Int))) (2 : Int) == (1 : Int), q6 ++ [(if bdR q1 (Int.toNat q3) < bdR q0 (Int.toNat q2) then bdR q1 (Int.toNat q3) else bdR q0 (Int.toNat q2), if bdR q1 (Int.toNat q3) < bdR q0 (Int.toNat q2) then bdR q1 (Int.toNat q3) else bdR q0 (Int.toNat q2))]))) (.bad 71)) (.ret (.inl (q2, IntKind.wrap .i64 (q3 + (1 : Int)), if bdR q1 (Int.toNat q3) < bdR q0 (Int.toNat q2) then bdR q1 (Int.toNat q3) else bdR q0 (Int.toNat q2), bif Int.tmod q2 (2 : Int) == (1 : Int) then true else Int.tmod (IntKind.wrap .i64 (q3 + (1 : Int))) (2 : Int) == (1 : Int), q6)))) (.br (bif q5 then !bif Int.tmod q2 (2 : Int) == (1 : Int) then true else Int.tmod (IntKind.wrap .i64 (q3 + (1 : Int))) (2 : Int) == (1 : Int) else false) (.br (decide ((List.length q6 + (1 : Nat)) * (16 : Nat) ≤ maxNew) && decide (List.length q6 + (1 : Nat) ≤ maxLen)) (.ret (.inl (q2, IntKind.wrap .i64 (q3 + (1 : Int)), q4, bif Int.tmod q2 (2 : Int) == (1 : Int) then true else Int.tmod (IntKind.wrap .i64 (q3 + (1 : Int))) (2 : Int) == (1 : Int), q6 ++ [(q4, if bdR q1 (Int.toNat q3) < bdR q0 (Int.toNat q2) then bdR q1 (Int.toNat q3) else bdR q0 (Int.toNat q2))]))) (.bad 71)) (.ret (.inl (q2, IntKind.wrap .i64 (q3 + (1 : Int)), q4, bif Int.tmod q2 (2 : Int) == (1 : Int) then true else Int.tmod (IntKind.wrap .i64 (q3 + (1 : Int))) (2 : Int) == (1 : Int), q6))))) (.br (bif bif Int.tmod q2 (2 : Int) == (1 : Int) then true else Int.tmod q3 (2 : Int) == (1 : Int) then !q5 else false) (.br (bif q5 then !bif Int.tmod q2 (2 : Int) == (1 : Int) then true else Int.tmod q3 (2 : Int) == (1 : Int) else false) (.br (decide ((List.length q6 + (1 : Nat)) * (16 : Nat) ≤ maxNew) && decide (List.length q6 + (1 : Nat) ≤ maxLen)) (.ret (.inl (q2, q3, if bdR q1 (Int.toNat q3) < bdR q0 (Int.toNat q2) then bdR q1 (Int.toNat q3) else bdR q0 (Int.toNat q2), bif Int.tmod q2 (2 : Int) == (1 : Int) then true else Int.tmod q3 (2 : Int) == (1 : Int), q6 ++ [(if bdR q1 (Int.toNat q3) < bdR q0 (Int.toNat q2) then bdR q1 (Int.toNat q3) else bdR q0 (Int.toNat q2), if bdR q1 (Int.toNat q3) < bdR q0 (Int.toNat q2) then bdR q1 (Int.toNat q3) else bdR q0 (Int.toNat q2))]))) (.bad 71)) (.ret (.inl (q2, q3, if bdR q1 (Int.toNat q3) < bdR q0 (Int.toNat q2) then bdR q1 (Int.toNat q3) else bdR q0 (Int.toNat q2), bif Int.tmod q2 (2 : Int) == (1 : Int) then true else Int.tmod q3 (2 : Int) == (1 : Int), q6)))) (.br (bif q5 then !bif Int.tmod q2 (2 : Int) == (1 : Int) then true else Int.tmod q3 (2 : Int) == (1 : Int) else false) (.br (decide ((List.length q6 + (1 : Nat)) * (16 : Nat) ≤ maxNew) && decide (List.length q6 + (1 : Nat) ≤ maxLen)) (.ret (.inl (q2, q3, q4, bif Int.tmod q2 (2 : Int) == (1 : Int) then true else Int.tmod q3 (2 : Int) == (1 : Int), q6 ++ [(q4, if bdR q1 (Int.toNat q3) < bdR q0 (Int.toNat q2) then bdR q1 (Int.toNat q3) else bdR q0 (Int.toNat q2))]))) (.bad 71)) (.ret (.inl (q2, q3, q4, bif Int.tmod q2 (2 : Int) == (1 : Int) then true else Int.tmod q3 (2 : Int) == (1 : Int), q6))))))) (.bad 900)) (.bad 900)) (.ret (.inr (0, (q2, q3, q4, q5, q6))))
set_option maxRecDepth 100000 in
set_option maxHeartbeats 4000000 in
theorem swu_step_eq : ∀ (u : swu_U) (v : swu_V), (evalC Try.prog (evalB Try.prog rgC_S51 (opens []) rgB_L58 7).1 (evalB Try.prog rgC_S51 (opens []) rgB_L58 7).2 (opens []) (rgB_L58 102) 100000 (0 :: [0, 0, 1, 1, 1, 1, 1, 1]) (loopOf (bodyOf Try.prog 102) [1, 1, 1, 1, 1, 1, 0, 0]) (swu_St u v) []).bind (finF [2, 3, 11, 12, 13, 14, 15, 16, 17, 18, 19, 20, 21, 22, 23, 24, 25, 26, 27, 28, 29, 30, 31, 32, 33, 34, 35, 36, 37, 38, 39, 40, 41, 42, 43, 44, 45, 46, 47, 48, 49, 50, 51, 52, 53, 54, 55, 56, 57, 58, 59, 60, 61, 62, 63, 64, 65, 66, 67, 68, 69, 70, 71, 72, 73, 74, 75, 76, 77, 78, 79, 80, 81] [⟨980, some 6, 0, 0, 69, (.prod (.int .i64) (.int .i64))⟩] [9, 980] [1070, 1072, 1073, 1075, 1076, 1078] 1015) = (swu_step u v).bind (outA (swu_St u) [.exit 0]) := by
  rintro ⟨q0, q1⟩ ⟨q2, q3, q4, q5, q6⟩
  kernel_rfl
noncomputable def swu_rd (b : Bool) (o0 : Option AV) (o1 : Option AV) (o4 : Option AV) (o5 : Option AV) (o6 : Option AV) (o7 : Option AV) (o8 : Option AV) (o9 : Option AV) (o10 : Option AV) (own : Own) : Option (swu_U × swu_V) := zrT b <| zrO o0 fun za1 => zrA1 za1 fun zc2 => zrD (.prod (.int .i64) (.int .i64)) zc2 fun q0 => zrO o1 fun za3 => zrA1 za3 fun zc4 => zrD (.prod (.int .i64) (.int .i64)) zc4 fun q1 => zrO o4 fun za5 => zrA1 za5 fun zc6 => zrNil zc6 <| zrO o5 fun za7 => zrA1 za7 fun zc8 => zrP 9 0 zc8 <| zrO o6 fun za9 => zrA1 za9 fun zc10 => zrSl 980 0 (none) zc10 <| zrO o7 fun za11 => zrA1 za11 fun zc12 => zrI .i64 zc12 fun q2 => zrO o8 fun za13 => zrA1 za13 fun zc14 => zrI .i64 zc14 fun q3 => zrO o9 fun za15 => zrA1 za15 fun zc16 => zrI .i64 zc16 fun q4 => zrO o10 fun za17 => zrA1 za17 fun zc18 => zrB zc18 fun q5 => zrL own fun zq19 zw20 => zrKey 9 zq19 fun zk21 => zrC zk21 fun zl22 => zrN zl22 <| zrL zw20 fun zq23 zw24 => zrKey 980 zq23 fun zk25 => zrR true 69 (.prod (.int .i64) (.int .i64)) zk25 fun q6 => zrN zw24 <| some ((q0, q1), (q2, q3, q4, q5, q6))
noncomputable def swu_can (st : Stt) : Stt := canA [2, 3, 11, 12, 13, 14, 15, 16, 17, 18, 19, 20, 21, 22, 23, 24, 25, 26, 27, 28, 29, 30, 31, 32, 33, 34, 35, 36, 37, 38, 39, 40, 41, 42, 43, 44, 45, 46, 47, 48, 49, 50, 51, 52, 53, 54, 55, 56, 57, 58, 59, 60, 61, 62, 63, 64, 65, 66, 67, 68, 69, 70, 71, 72, 73, 74, 75, 76, 77, 78, 79, 80, 81] [⟨980, some 6, 0, 0, 69, (.prod (.int .i64) (.int .i64))⟩] [9, 980] [1070, 1072, 1073, 1075, 1076, 1078] 1015 st
noncomputable def swu_cok (st : Stt) : Bool := canAok [2, 3, 11, 12, 13, 14, 15, 16, 17, 18, 19, 20, 21, 22, 23, 24, 25, 26, 27, 28, 29, 30, 31, 32, 33, 34, 35, 36, 37, 38, 39, 40, 41, 42, 43, 44, 45, 46, 47, 48, 49, 50, 51, 52, 53, 54, 55, 56, 57, 58, 59, 60, 61, 62, 63, 64, 65, 66, 67, 68, 69, 70, 71, 72, 73, 74, 75, 76, 77, 78, 79, 80, 81] [⟨980, some 6, 0, 0, 69, (.prod (.int .i64) (.int .i64))⟩] [9, 980] [1070, 1072, 1073, 1075, 1076, 1078] 1015 st
noncomputable def swu_read (st : Stt) : Option (swu_U × swu_V) := swu_rd (swu_cok st && (staysA [⟨980, some 6, 0, 0, 69, (.prod (.int .i64) (.int .i64))⟩] [9, 980] st.own && juAll [2, 3, 11, 12, 13, 14, 15, 16, 17, 18, 19, 20, 21, 22, 23, 24, 25, 26, 27, 28, 29, 30, 31, 32, 33, 34, 35, 36, 37, 38, 39, 40, 41, 42, 43, 44, 45, 46, 47, 48, 49, 50, 51, 52, 53, 54, 55, 56, 57, 58, 59, 60, 61, 62, 63, 64, 65, 66, 67, 68, 69, 70, 71, 72, 73, 74, 75, 76, 77, 78, 79, 80, 81] (swu_can st).tm 82)) (swu_can st).tm[0]? (swu_can st).tm[1]? (swu_can st).tm[4]? (swu_can st).tm[5]? (swu_can st).tm[6]? (swu_can st).tm[7]? (swu_can st).tm[8]? (swu_can st).tm[9]? (swu_can st).tm[10]? (swu_can st).own
set_option maxRecDepth 100000 in
set_option maxHeartbeats 4000000 in
theorem swu_rd_ok {b : Bool} {tm : List AV} {own : Own} {u : swu_U} {v : swu_V} (hj : b = true → juAll [2, 3, 11, 12, 13, 14, 15, 16, 17, 18, 19, 20, 21, 22, 23, 24, 25, 26, 27, 28, 29, 30, 31, 32, 33, 34, 35, 36, 37, 38, 39, 40, 41, 42, 43, 44, 45, 46, 47, 48, 49, 50, 51, 52, 53, 54, 55, 56, 57, 58, 59, 60, 61, 62, 63, 64, 65, 66, 67, 68, 69, 70, 71, 72, 73, 74, 75, 76, 77, 78, 79, 80, 81] tm 82 = true) (h : swu_rd b tm[0]? tm[1]? tm[4]? tm[5]? tm[6]? tm[7]? tm[8]? tm[9]? tm[10]? own = some (u, v)) : b = true ∧ tm = (swu_St u v).tm ∧ own = (swu_St u v).own := by
  unfold swu_rd at h
  obtain ⟨rfl, h0⟩ := zrT_some h
  obtain ⟨za1, e0, h1⟩ := zrO_some h0
  obtain ⟨zc2, rfl, h2⟩ := zrA1_some h1
  obtain ⟨q0, rfl, h3⟩ := zrD_some h2
  obtain ⟨za3, e1, h4⟩ := zrO_some h3
  obtain ⟨zc4, rfl, h5⟩ := zrA1_some h4
  obtain ⟨q1, rfl, h6⟩ := zrD_some h5
  obtain ⟨za5, e4, h7⟩ := zrO_some h6
  obtain ⟨zc6, rfl, h8⟩ := zrA1_some h7
  obtain ⟨rfl, h9⟩ := zrNil_some h8
  obtain ⟨za7, e5, h10⟩ := zrO_some h9
  obtain ⟨zc8, rfl, h11⟩ := zrA1_some h10
  obtain ⟨rfl, h12⟩ := zrP_some h11
  obtain ⟨za9, e6, h13⟩ := zrO_some h12
  obtain ⟨zc10, rfl, h14⟩ := zrA1_some h13
  obtain ⟨rfl, h15⟩ := zrSl_some h14
  obtain ⟨za11, e7, h16⟩ := zrO_some h15
  obtain ⟨zc12, rfl, h17⟩ := zrA1_some h16
  obtain ⟨q2, rfl, h18⟩ := zrI_some h17
  obtain ⟨za13, e8, h19⟩ := zrO_some h18
  obtain ⟨zc14, rfl, h20⟩ := zrA1_some h19
  obtain ⟨q3, rfl, h21⟩ := zrI_some h20
  obtain ⟨za15, e9, h22⟩ := zrO_some h21
  obtain ⟨zc16, rfl, h23⟩ := zrA1_some h22
  obtain ⟨q4, rfl, h24⟩ := zrI_some h23
  obtain ⟨za17, e10, h25⟩ := zrO_some h24
  obtain ⟨zc18, rfl, h26⟩ := zrA1_some h25
  obtain ⟨q5, rfl, h27⟩ := zrB_some h26
  obtain ⟨zq19, zw20, rfl, h28⟩ := zrL_some h27
  obtain ⟨zk21, rfl, h29⟩ := zrKey_some h28
  obtain ⟨zl22, rfl, h30⟩ := zrC_some h29
  obtain ⟨rfl, h31⟩ := zrN_some h30
  obtain ⟨zq23, zw24, rfl, h32⟩ := zrL_some h31
  obtain ⟨zk25, rfl, h33⟩ := zrKey_some h32
  obtain ⟨q6, rfl, h34⟩ := zrR_some h33
  obtain ⟨rfl, h35⟩ := zrN_some h34
  have h := Option.some.inj h35
  have hu := congrArg Prod.fst h
  have hv := congrArg Prod.snd h
  dsimp only at hu hv
  subst hu
  subst hv
  exact ⟨rfl, (tm_fill (hj rfl) (Lv := [(0, .one (.d false false (.prod (.int .i64) (.int .i64)) q0)), (1, .one (.d false false (.prod (.int .i64) (.int .i64)) q1)), (4, .one (.v false (Value.slice none (0 : Nat) (0 : Nat)))), (5, .one (.p 9 0)), (6, .one (.s false 980 0 (none))), (7, .one (.v false (.int .i64 q2))), (8, .one (.v false (.int .i64 q3))), (9, .one (.v false (.int .i64 q4))), (10, .one (.v false (.bool q5)))]) (by kernel_rfl) ⟨e0, e1, e4, e5, e6, e7, e8, e9, e10, trivial⟩).trans (by kernel_rfl), rfl⟩
theorem swu_read_ok (st : Stt) (u : swu_U) (v : swu_V) (h : swu_read st = some (u, v)) : swu_cok st = true ∧ staysA [⟨980, some 6, 0, 0, 69, (.prod (.int .i64) (.int .i64))⟩] [9, 980] st.own = true ∧ swu_can st = swu_St u v := by
  obtain ⟨h1, h2, h3⟩ := swu_rd_ok (fun hb => by rw [Bool.and_eq_true, Bool.and_eq_true] at hb; exact hb.2.2) h
  rw [Bool.and_eq_true, Bool.and_eq_true] at h1
  refine ⟨h1.1, h1.2.1, ?_⟩
  have e : swu_can st = ⟨(swu_can st).tm, (swu_can st).own, 1015⟩ := by kernel_rfl
  rw [e, h2, h3]
  rfl
noncomputable def swu_cond (u : swu_U) (v : swu_V) : Bool := runC (swu_step u) v
noncomputable def swu_g (u : swu_U) (v : swu_V) : Nat × swu_V := runG (swu_step u) v
theorem swu_hg : ∀ (u : swu_U) (v : swu_V), swu_cond u v = true → loopN (swu_step u) ((fun u v => runF (swu_step u) v) u v) v = some (swu_g u v) := by
  exact fun u v h => run_hg h
noncomputable def swu_m (st : Stt) : Option (Tr (Ex × Stt)) := sumM swu_read swu_cond swu_St swu_g [(0, .exit 0)] st
noncomputable def rgC_L52 : FuncId → Loops := addL 102 [0, 0, 1, 1, 1, 1, 1, 1] swu_m rgB_L58
set_option maxRecDepth 100000 in
set_option maxHeartbeats 4000000 in
theorem rgC_L52_ok : LoopsOK Try.prog rgC_L52 :=
  loop_sumF (body := (bodyOf Try.prog 102)) (c := (loopOf (bodyOf Try.prog 102) [1, 1, 1, 1, 1, 1, 0, 0])) (kinds := [.exit 0]) (allow := [(0, .exit 0)]) (St := swu_St) (step := swu_step) (W := [2, 3, 11, 12, 13, 14, 15, 16, 17, 18, 19, 20, 21, 22, 23, 24, 25, 26, 27, 28, 29, 30, 31, 32, 33, 34, 35, 36, 37, 38, 39, 40, 41, 42, 43, 44, 45, 46, 47, 48, 49, 50, 51, 52, 53, 54, 55, 56, 57, 58, 59, 60, 61, 62, 63, 64, 65, 66, 67, 68, 69, 70, 71, 72, 73, 74, 75, 76, 77, 78, 79, 80, 81]) (As := [⟨980, some 6, 0, 0, 69, (.prod (.int .i64) (.int .i64))⟩]) (ks := [9, 980]) (dd := [1070, 1072, 1073, 1075, 1076, 1078]) (nx := 1015) (n := 100000) (g := swu_g) (cond := swu_cond) (fuel := (fun u v => runF (swu_step u) v)) (read := swu_read) (by kernel_rfl) (rgC_S51_ok) (rgB_L58_ok) 7 ⟨Try.f102, by kernel_rfl, by kernel_rfl⟩ (by kernel_rfl) (by kernel_rfl) (by kernel_rfl) swu_step_eq swu_hg swu_read_ok
def swu_op (p q : Bool) : Bool := bif p then true else q
set_option maxHeartbeats 10000000 in
theorem swu_run {A B : Rl} (ha : valR A) (hb : valR B) (la : A.length ≤ 10000) (lb : B.length ≤ 10000) : swu_cond (A, B) (0, 0, 0, false, []) = true ∧ (swu_g (A, B) (0, 0, 0, false, [])).1 = 0 ∧ valR (swu_g (A, B) (0, 0, 0, false, [])).2.2.2.2.2 ∧ (swu_g (A, B) (0, 0, 0, false, [])).2.2.2.2.2 = nfR fun x => swu_op (memB A x) (memB B x) = true := by
  have wa : IntKind.wrap .i64 ((2 : Int) * (A.length : Int)) = 2 * (A.length : Int) := wid (by omega) (by omega)
  have wb : IntKind.wrap .i64 ((2 : Int) * (B.length : Int)) = 2 * (B.length : Int) := wid (by omega) (by omega)
  have cA : decide (A.length ≤ 100000) = true := decide_eq_true (by omega)
  have cB : decide (B.length ≤ 100000) = true := decide_eq_true (by omega)
  refine run_val (step := swu_step (A, B)) (Inv := fun s => ∃ (pa pb : Nat) (fr : Int) (ins : Bool) (res : Rl) (t : Int), s = ((pa : Int), (pb : Int), fr, ins, res) ∧ Swp swu_op A B pa pb fr ins res t) (μ := fun s => 2 * A.length + 2 * B.length - (s.1.toNat + s.2.1.toNat)) (Q := fun t => t.1 = 0 ∧ valR t.2.2.2.2.2 ∧ t.2.2.2.2.2 = nfR fun x => swu_op (memB A x) (memB B x) = true) ?_ _ _ (Nat.lt_succ_self _) ⟨0, 0, 0, false, [], -1048577, rfl, swp_start ha hb rfl⟩
  rintro s ⟨pa, pb, fr, ins, res, t, rfl, hs⟩
  have hla := hs.la
  have hlb := hs.lb
  have hln := hs.len
  by_cases hm : pa < 2 * A.length ∨ pb < 2 * B.length
  · have c0 : (bif decide ((pa : Int) < 2 * (A.length : Int)) then true else decide ((pb : Int) < 2 * (B.length : Int))) = true := by
      by_cases h : pa < 2 * A.length
      · rw [decide_eq_true (show (pa : Int) < 2 * (A.length : Int) by omega)]; rfl
      · rw [decide_eq_true (show (pb : Int) < 2 * (B.length : Int) by omega)]; cases decide ((pa : Int) < 2 * (A.length : Int)) <;> rfl
    have ca : decide ((pa : Int) ≤ 1000000) = true := decide_eq_true (by omega)
    have cb : decide ((pb : Int) ≤ 1000000) = true := decide_eq_true (by omega)
    have w1 : IntKind.wrap .i64 ((pa : Int) + (1 : Int)) = ((pa + 1 : Nat) : Int) := by rw [wid (by omega) (by omega)]; omega
    have w2 : IntKind.wrap .i64 ((pb : Int) + (1 : Int)) = ((pb + 1 : Nat) : Int) := by rw [wid (by omega) (by omega)]; omega
    obtain ⟨r1, r2⟩ := room16 (n := res.length + 1) (by omega)
    obtain ⟨at_, hat⟩ : ∃ z, z = min (bdR A pa) (bdR B pb) := ⟨_, rfl⟩
    have eat : (if bdR B pb < bdR A pa then bdR B pb else bdR A pa) = at_ := by rw [hat]; exact ite_min _ _
    obtain ⟨pa', hpa⟩ : ∃ z, z = if bdR A pa = at_ then pa + 1 else pa := ⟨_, rfl⟩
    obtain ⟨pb', hpb⟩ : ∃ z, z = if bdR B pb = at_ then pb + 1 else pb := ⟨_, rfl⟩
    obtain ⟨hd, hh⟩ : ∃ z, z = swu_op (decide (pa' % 2 = 1)) (decide (pb' % 2 = 1)) := ⟨_, rfl⟩
    obtain ⟨hn, more⟩ := swp_next ha hb hs hm hat hpa hpb hh
    have hla' := hn.la
    have hlb' := hn.lb
    refine ⟨.inl ((pa' : Int), (pb' : Int), (bif (bif hd then !ins else false) then at_ else fr), hd, (bif (bif ins then !hd else false) then res ++ [(fr, at_)] else res)), ?_, ⟨pa', pb', _, hd, _, at_, rfl, hn⟩, by show 2 * A.length + 2 * B.length - ((pa' : Int).toNat + (pb' : Int).toNat) < 2 * A.length + 2 * B.length - ((pa : Int).toNat + (pb : Int).toNat); omega⟩
    have gx : ∀ a b : Nat, pa' = a → pb' = b → (bif decide (a % 2 = 1) then true else decide (b % 2 = 1)) = hd := fun a b e1 e2 => by subst e1; subst e2; exact hh.symm
    clear hn hs hh
    by_cases e1 : bdR A pa = at_
    · have b1 : (bdR A pa == at_) = true := by rw [e1]; exact beq_self_eq_true _
      rw [if_pos e1] at hpa
      by_cases e2 : bdR B pb = at_
      · have b2 : (bdR B pb == at_) = true := by rw [e2]; exact beq_self_eq_true _
        rw [if_pos e2] at hpb
        have g := gx (pa + 1) (pb + 1) hpa hpb
        rw [hpa, hpb]
        clear gx
        simp only [swu_step, Tr.val, wa, wb, c0, ca, cb, cA, cB, nn_t, Int.toNat_natCast, eat, b1, b2, w1, w2, odd_t, g, r1, r2, Bool.and_self, cond_true, cond_false]
        cases ins <;> cases hd <;> rfl
      · have b2 : (bdR B pb == at_) = false := by rw [beq_eq_false_iff_ne]; exact e2
        rw [if_neg e2] at hpb
        have g := gx (pa + 1) pb hpa hpb
        rw [hpa, hpb]
        clear gx
        simp only [swu_step, Tr.val, wa, wb, c0, ca, cb, cA, cB, nn_t, Int.toNat_natCast, eat, b1, b2, w1, w2, odd_t, g, r1, r2, Bool.and_self, cond_true, cond_false]
        cases ins <;> cases hd <;> rfl
    · have b1 : (bdR A pa == at_) = false := by rw [beq_eq_false_iff_ne]; exact e1
      rw [if_neg e1] at hpa
      by_cases e2 : bdR B pb = at_
      · have b2 : (bdR B pb == at_) = true := by rw [e2]; exact beq_self_eq_true _
        rw [if_pos e2] at hpb
        have g := gx pa (pb + 1) hpa hpb
        rw [hpa, hpb]
        clear gx
        simp only [swu_step, Tr.val, wa, wb, c0, ca, cb, cA, cB, nn_t, Int.toNat_natCast, eat, b1, b2, w1, w2, odd_t, g, r1, r2, Bool.and_self, cond_true, cond_false]
        cases ins <;> cases hd <;> rfl
      · exact absurd hat (by omega)
  · have c0 : (bif decide ((pa : Int) < 2 * (A.length : Int)) then true else decide ((pb : Int) < 2 * (B.length : Int))) = false := by
      rw [decide_eq_false (show ¬ (pa : Int) < 2 * (A.length : Int) by omega), decide_eq_false (show ¬ (pb : Int) < 2 * (B.length : Int) by omega)]; rfl
    obtain ⟨f1, f2⟩ := swp_end ha hb rfl hs (by omega) (by omega)
    exact ⟨.inr (0, ((pa : Int), (pb : Int), fr, ins, res)), by simp only [swu_step, Tr.val, wa, wb, c0, cond_false], rfl, f1, f2⟩
theorem swu_nf (A B : Rl) : nfR (fun x => swu_op (memB A x) (memB B x) = true) = nfR (fun x => opE 2 (memB A x) (memB B x) = true) := by
  have e : ∀ p q, swu_op p q = opE 2 p q := fun p q => by cases p <;> cases q <;> rfl
  exact nfR_congr fun x => by rw [e]
set_option maxRecDepth 100000 in
theorem swuc_tree (A : (Ty.list (.prod (.int .i64) (.int .i64))).den) (B : (Ty.list (.prod (.int .i64) (.int .i64))).den) : evalF Try.prog rgC_S51 (opens []) rgC_L52 9 102 [.one (.d false false (.prod (.int .i64) (.int .i64)) A), .one (.d false false (.prod (.int .i64) (.int .i64)) B)] = .br (((decide ((↑(List.length A) : Int) ≤ (9223372036854775807 : Int))) && (bif !valB A then true else ((decide ((↑(List.length B) : Int) ≤ (9223372036854775807 : Int))) && (bif !valB B then true else ((swu_cond (A, B) ((0 : Int), (0 : Int), (0 : Int), false, [])) && (Nat.beq (Prod.fst (swu_g (A, B) ((0 : Int), (0 : Int), (0 : Int), false, []))) (0 : Nat)))))))) (.ret (.one (.d false false (.prod (.int .i64) (.int .i64)) (bif !valB A then [] else bif !valB B then [] else Prod.snd (Prod.snd (Prod.snd (Prod.snd (Prod.snd (swu_g (A, B) ((0 : Int), (0 : Int), (0 : Int), false, [])))))))))) (.bad 116) := by kernel_rfl
theorem swuc_val (A : (Ty.list (.prod (.int .i64) (.int .i64))).den) (B : (Ty.list (.prod (.int .i64) (.int .i64))).den) (hc : (decide (A.length ≤ 10000) && decide (B.length ≤ 10000)) = true) : (.br (((decide ((↑(List.length A) : Int) ≤ (9223372036854775807 : Int))) && (bif !valB A then true else ((decide ((↑(List.length B) : Int) ≤ (9223372036854775807 : Int))) && (bif !valB B then true else ((swu_cond (A, B) ((0 : Int), (0 : Int), (0 : Int), false, [])) && (Nat.beq (Prod.fst (swu_g (A, B) ((0 : Int), (0 : Int), (0 : Int), false, []))) (0 : Nat)))))))) (.ret (.one (.d false false (.prod (.int .i64) (.int .i64)) (bif !valB A then [] else bif !valB B then [] else Prod.snd (Prod.snd (Prod.snd (Prod.snd (Prod.snd (swu_g (A, B) ((0 : Int), (0 : Int), (0 : Int), false, [])))))))))) (.bad 116) : Tr AV).val = some (.one (.d false false (.prod (.int .i64) (.int .i64)) (chL A B 2))) := by
  obtain ⟨K, rfl⟩ : ∃ K : Rl, K = A := ⟨A, rfl⟩
  obtain ⟨M, rfl⟩ : ∃ M : Rl, M = B := ⟨B, rfl⟩
  rw [Bool.and_eq_true] at hc
  have hn : K.length ≤ 10000 := of_decide_eq_true hc.1
  have hm : M.length ≤ 10000 := of_decide_eq_true hc.2
  have c1 : decide ((K.length : Int) ≤ 9223372036854775807) = true := decide_eq_true (by omega)
  have c2 : decide ((M.length : Int) ≤ 9223372036854775807) = true := decide_eq_true (by omega)
  unfold chL
  show cond _ _ _ = _
  cases hv : valB K
  · simp only [c1, Bool.not_false, Bool.false_and, Bool.and_self, cond_true, cond_false, Tr.val]
  · cases hw : valB M
    · simp only [c1, c2, Bool.not_true, Bool.not_false, Bool.and_false, Bool.and_self, cond_true, cond_false, Tr.val]
    · obtain ⟨v1, v2, v3, v4⟩ := swu_run (valB_iff.1 hv) (valB_iff.1 hw) hn hm
      simp only [c1, c2, v1, v2, v4, swu_nf, Nat.beq, Bool.not_true, Bool.and_self, cond_true, cond_false, Tr.val]
noncomputable def swuc_g : List AV → Option (Tr AV)
  | [.one (.d _ _ (.prod (.int .i64) (.int .i64)) A), .one (.d _ _ (.prod (.int .i64) (.int .i64)) B)] => some (.br (decide (A.length ≤ 10000) && decide (B.length ≤ 10000)) (.ret (.one (.d false false (.prod (.int .i64) (.int .i64)) (chL A B 2)))) (.bad 900))
  | _ => none
set_option maxHeartbeats 4000000 in
theorem swuc_ok : FunOK Try.prog 102 swuc_g := by
  refine fun_ok (by kernel_rfl) (rgC_S51_ok) (rgC_L52_ok) 9 (On := (opens [])) (fun args t h => ?_)
  unfold swuc_g at h
  split at h
  · rename_i _ _ A _ _ B
    simp only [Option.some.injEq] at h
    subst h
    refine ⟨[.one (.d false false (.prod (.int .i64) (.int .i64)) A), .one (.d false false (.prod (.int .i64) (.int .i64)) B)], rfl, fun fr w us h => h, fun r hr => ?_⟩
    obtain ⟨hc, hr⟩ := br_bad hr
    simp only [Tr.val, Option.some.injEq] at hr
    subst hr
    rw [swuc_tree]
    exact swuc_val A B hc
  · cases h
noncomputable def rgC_S53 : Sums := addS 102 swuc_g rgC_S51
theorem rgC_S53_ok : SumOK Try.prog rgC_S53 := addS_ok (swuc_ok) (rgC_S51_ok)
noncomputable def swi_step (u : swu_U) (v : swu_V) : Tr (swu_V ⊕ (Nat × swu_V)) :=
  match u, v with
  | (q0, q1), (q2, q3, q4, q5, q6) => .br (bif decide (q2 < IntKind.wrap .i64 ((2 : Int) * (↑(List.length q0) : Int))) then true else decide (q3 < IntKind.wrap .i64 ((2 : Int) * (↑(List.length q1) : Int)))) (.br (decide ((0 : Int) ≤ q2) && (decide (q2 ≤ (1000000 : Int)) && decide (List.length q0 ≤ (100000 : Nat)))) (.br (decide ((0 : Int) ≤ q3) && (decide (q3 ≤ (1000000 : Int)) && decide (List.length q1 ≤ (100000 : Nat)))) (.br (bdR q0 (Int.toNat q2) == if bdR q1 (Int.toNat q3) < bdR q0 (Int.toNat q2) then bdR q1 (Int.toNat q3) else bdR q0 (Int.toNat q2)) (.br (bdR q1 (Int.toNat q3) == if bdR q1 (Int.toNat q3) < bdR q0 (Int.toNat q2) then bdR q1 (Int.toNat q3) else bdR q0 (Int.toNat q2)) (.br (bif bif Int.tmod (IntKind.wrap .i64 (q2 + (1 : Int))) (2 : Int) == (1 : Int) then Int.tmod (IntKind.wrap .i64 (q3 + (1 : Int))) (2 : Int) == (1 : Int) else false then !q5 else false) (.br (bif q5 then !bif Int.tmod (IntKind.wrap .i64 (q2 + (1 : Int))) (2 : Int) == (1 : Int) then Int.tmod (IntKind.wrap .i64 (q3 + (1 : Int))) (2 : Int) == (1 : Int) else false else false) (.br (decide ((List.length q6 + (1 : Nat)) * (16 : Nat) ≤ maxNew) && decide (List.length q6 + (1 : Nat) ≤ maxLen)) (.ret (.inl (IntKind.wrap .i64 (q2 + (1 : Int)), IntKind.wrap .i64 (q3 + (1 : Int)), if bdR q1 (Int.toNat q3) < bdR q0 (Int.toNat q2) then bdR q1 (Int.toNat q3) else bdR q0 (Int.toNat q2), bif Int.tmod (IntKind.wrap .i64 (q2 + (1 : Int))) (2 : Int) == (1 : Int) then Int.tmod (IntKind.wrap .i64 (q3 + (1 : Int))) (2 : Int) == (1 : Int) else false, q6 ++ [(if bdR q1 (Int.toNat q3) < bdR q0 (Int.toNat q2) then bdR q1 (Int.toNat q3) else bdR q0 (Int.toNat q2), if bdR q1 (Int.toNat q3) < bdR q0 (Int.toNat q2) then bdR q1 (Int.toNat q3) else bdR q0 (Int.toNat q2))]))) (.bad 71)) (.ret (.inl (IntKind.wrap .i64 (q2 + (1 : Int)), IntKind.wrap .i64 (q3 + (1 : Int)), if bdR q1 (Int.toNat q3) < bdR q0 (Int.toNat q2) then bdR q1 (Int.toNat q3) else bdR q0 (Int.toNat q2), bif Int.tmod (IntKind.wrap .i64 (q2 + (1 : Int))) (2 : Int) == (1 : Int) then Int.tmod (IntKind.wrap .i64 (q3 + (1 : Int))) (2 : Int) == (1 : Int) else false, q6)))) (.br (bif q5 then !bif Int.tmod (IntKind.wrap .i64 (q2 + (1 : Int))) (2 : Int) == (1 : Int) then Int.tmod (IntKind.wrap .i64 (q3 + (1 : Int))) (2 : Int) == (1 : Int) else false else false) (.br (decide ((List.length q6 + (1 : Nat)) * (16 : Nat) ≤ maxNew) && decide (List.length q6 + (1 : Nat) ≤ maxLen)) (.ret (.inl (IntKind.wrap .i64 (q2 + (1 : Int)), IntKind.wrap .i64 (q3 + (1 : Int)), q4, bif Int.tmod (IntKind.wrap .i64 (q2 + (1 : Int))) (2 : Int) == (1 : Int) then Int.tmod (IntKind.wrap .i64 (q3 + (1 : Int))) (2 : Int) == (1 : Int) else false, q6 ++ [(q4, if bdR q1 (Int.toNat q3) < bdR q0 (Int.toNat q2) then bdR q1 (Int.toNat q3) else bdR q0 (Int.toNat q2))]))) (.bad 71)) (.ret (.inl (IntKind.wrap .i64 (q2 + (1 : Int)), IntKind.wrap .i64 (q3 + (1 : Int)), q4, bif Int.tmod (IntKind.wrap .i64 (q2 + (1 : Int))) (2 : Int) == (1 : Int) then Int.tmod (IntKind.wrap .i64 (q3 + (1 : Int))) (2 : Int) == (1 : Int) else false, q6))))) (.br (bif bif Int.tmod (IntKind.wrap .i64 (q2 + (1 : Int))) (2 : Int) == (1 : Int) then Int.tmod q3 (2 : Int) == (1 : Int) else false then !q5 else false) (.br (bif q5 then !bif Int.tmod (IntKind.wrap .i64 (q2 + (1 : Int))) (2 : Int) == (1 : Int) then Int.tmod q3 (2 : Int) == (1 : Int) else false else false) (.br (decide ((List.length q6 + (1 : Nat)) * (16 : Nat) ≤ maxNew) && decide (List.length q6 + (1 : Nat) ≤ maxLen)) (.ret (.inl (IntKind.wrap .i64 (q2 + (1 : Int)), q3, if bdR q1 (Int.toNat q3) < bdR q0 (Int.toNat q2) then bdR q1 (Int.toNat q3) else bdR q0 (Int.toNat q2), bif Int.tmod (IntKind.wrap .i64 (q2 + (1 : Int))) (2 : Int) == (1 : Int) then Int.tmod q3 (2 : Int) == (1 : Int) else false, q6 ++ [(if bdR q1 (Int.toNat q3) < bdR q0 (Int.toNat q2) then bdR q1 (Int.toNat q3) else bdR q0 (Int.toNat q2), if bdR q1 (Int.toNat q3) < bdR q0 (Int.toNat q2) then bdR q1 (Int.toNat q3) else bdR q0 (Int.toNat q2))]))) (.bad 71)) (.ret (.inl (IntKind.wrap .i64 (q2 + (1 : Int)), q3, if bdR q1 (Int.toNat q3) < bdR q0 (Int.toNat q2) then bdR q1 (Int.toNat q3) else bdR q0 (Int.toNat q2), bif Int.tmod (IntKind.wrap .i64 (q2 + (1 : Int))) (2 : Int) == (1 : Int) then Int.tmod q3 (2 : Int) == (1 : Int) else false, q6)))) (.br (bif q5 then !bif Int.tmod (IntKind.wrap .i64 (q2 + (1 : Int))) (2 : Int) == (1 : Int) then Int.tmod q3 (2 : Int) == (1 : Int) else false else false) (.br (decide ((List.length q6 + (1 : Nat)) * (16 : Nat) ≤ maxNew) && decide (List.length q6 + (1 : Nat) ≤ maxLen)) (.ret (.inl (IntKind.wrap .i64 (q2 + (1 : Int)), q3, q4, bif Int.tmod (IntKind.wrap .i64 (q2 + (1 : Int))) (2 : Int) == (1 : Int) then Int.tmod q3 (2 : Int) == (1 : Int) else false, q6 ++ [(q4, if bdR q1 (Int.toNat q3) < bdR q0 (Int.toNat q2) then bdR q1 (Int.toNat q3) else bdR q0 (Int.toNat q2))]))) (.bad 71)) (.ret (.inl (IntKind.wrap .i64 (q2 + (1 : Int)), q3, q4, bif Int.tmod (IntKind.wrap .i64 (q2 + (1 : Int))) (2 : Int) == (1 : Int) then Int.tmod q3 (2 : Int) == (1 : Int) else false, q6)))))) (.br (bdR q1 (Int.toNat q3) == if bdR q1 (Int.toNat q3) < bdR q0 (Int.toNat q2) then bdR q1 (Int.toNat q3) else bdR q0 (Int.toNat q2)) (.br (bif bif Int.tmod q2 (2 : Int) == (1 : Int) then Int.tmod (IntKind.wrap .i64 (q3 + (1 : Int))) (2 : Int) == (1 : Int) else false then !q5 else false) (.br (bif q5 then !bif Int.tmod q2 (2 : Int) == (1 : Int) then Int.tmod (IntKind.wrap .i64 (q3 + (1 : Int))) (2 : Int) == (1 : Int) else false else false) (.br (decide ((List.length q6 + (1 : Nat)) * (16 : Nat) ≤ maxNew) && decide (List.length q6 + (1 : Nat) ≤ maxLen)) (.ret (.inl (q2, IntKind.wrap .i64 (q3 + (1 : Int)), if bdR q1 (Int.toNat q3) < bdR q0 (Int.toNat q2) then bdR q1 (Int.toNat q3) else bdR q0 (Int.toNat q2), bif Int.tmod q2 (2 : Int) == (1 : Int) then Int.tmod (IntKind.wrap .i64 (q3 + (1 : Int))) (2 : Int) == (1 : Int) else false, q6 ++ [(if bdR q1 (Int.toNat q3) < bdR q0 (Int.toNat q2) then bdR q1 (Int.toNat q3) else bdR q0 (Int.toNat q2), if bdR q1 (Int.toNat q3) < bdR q0 (Int.toNat q2) then bdR q1 (Int.toNat q3) else bdR q0 (Int.toNat q2))]))) (.bad 71)) (.ret (.inl (q2, IntKind.wrap .i64 (q3 + (1 : Int)), if bdR q1 (Int.toNat q3) < bdR q0 (Int.toNat q2) then bdR q1 (Int.toNat q3) else bdR q0 (Int.toNat q2), bif Int.tmod q2 (2 : Int) == (1 : Int) then Int.tmod (IntKind.wrap .i64 (q3 + (1 : Int))) (2 : Int) == (1 : Int) else false, q6)))) (.br (bif q5 then !bif Int.tmod q2 (2 : Int) == (1 : Int) then Int.tmod (IntKind.wrap .i64 (q3 + (1 : Int))) (2 : Int) == (1 : Int) else false else false) (.br (decide ((List.length q6 + (1 : Nat)) * (16 : Nat) ≤ maxNew) && decide (List.length q6 + (1 : Nat) ≤ maxLen)) (.ret (.inl (q2, IntKind.wrap .i64 (q3 + (1 : Int)), q4, bif Int.tmod q2 (2 : Int) == (1 : Int) then Int.tmod (IntKind.wrap .i64 (q3 + (1 : Int))) (2 : Int) == (1 : Int) else false, q6 ++ [(q4, if bdR q1 (Int.toNat q3) < bdR q0 (Int.toNat q2) then bdR q1 (Int.toNat q3) else bdR q0 (Int.toNat q2))]))) (.bad 71)) (.ret (.inl (q2, IntKind.wrap .i64 (q3 + (1 : Int)), q4, bif Int.tmod q2 (2 : Int) == (1 : Int) then Int.tmod (IntKind.wrap .i64 (q3 + (1 : Int))) (2 : Int) == (1 : Int) else false, q6))))) (.br (bif bif Int.tmod q2 (2 : Int) == (1 : Int) then Int.tmod q3 (2 : Int) == (1 : Int) else false then !q5 else false) (.br (bif q5 then !bif Int.tmod q2 (2 : Int) == (1 : Int) then Int.tmod q3 (2 : Int) == (1 : Int) else false else false) (.br (decide ((List.length q6 + (1 : Nat)) * (16 : Nat) ≤ maxNew) && decide (List.length q6 + (1 : Nat) ≤ maxLen)) (.ret (.inl (q2, q3, if bdR q1 (Int.toNat q3) < bdR q0 (Int.toNat q2) then bdR q1 (Int.toNat q3) else bdR q0 (Int.toNat q2), bif Int.tmod q2 (2 : Int) == (1 : Int) then Int.tmod q3 (2 : Int) == (1 : Int) else false, q6 ++ [(if bdR q1 (Int.toNat q3) < bdR q0 (Int.toNat q2) then bdR q1 (Int.toNat q3) else bdR q0 (Int.toNat q2), if bdR q1 (Int.toNat q3) < bdR q0 (Int.toNat q2) then bdR q1 (Int.toNat q3) else bdR q0 (Int.toNat q2))]))) (.bad 71)) (.ret (.inl (q2, q3, if bdR q1 (Int.toNat q3) < bdR q0 (Int.toNat q2) then bdR q1 (Int.toNat q3) else bdR q0 (Int.toNat q2), bif Int.tmod q2 (2 : Int) == (1 : Int) then Int.tmod q3 (2 : Int) == (1 : Int) else false, q6)))) (.br (bif q5 then !bif Int.tmod q2 (2 : Int) == (1 : Int) then Int.tmod q3 (2 : Int) == (1 : Int) else false else false) (.br (decide ((List.length q6 + (1 : Nat)) * (16 : Nat) ≤ maxNew) && decide (List.length q6 + (1 : Nat) ≤ maxLen)) (.ret (.inl (q2, q3, q4, bif Int.tmod q2 (2 : Int) == (1 : Int) then Int.tmod q3 (2 : Int) == (1 : Int) else false, q6 ++ [(q4, if bdR q1 (Int.toNat q3) < bdR q0 (Int.toNat q2) then bdR q1 (Int.toNat q3) else bdR q0 (Int.toNat q2))]))) (.bad 71)) (.ret (.inl (q2, q3, q4, bif Int.tmod q2 (2 : Int) == (1 : Int) then Int.tmod q3 (2 : Int) == (1 : Int) else false, q6))))))) (.bad 900)) (.bad 900)) (.ret (.inr (0, (q2, q3, q4, q5, q6))))
set_option maxRecDepth 100000 in
set_option maxHeartbeats 4000000 in
theorem swi_step_eq : ∀ (u : swu_U) (v : swu_V), (evalC Try.prog (evalB Try.prog rgC_S53 (opens []) rgC_L52 7).1 (evalB Try.prog rgC_S53 (opens []) rgC_L52 7).2 (opens []) (rgC_L52 109) 100000 (0 :: [0, 0, 1, 1, 1, 1, 1, 1]) (loopOf (bodyOf Try.prog 109) [1, 1, 1, 1, 1, 1, 0, 0]) (swu_St u v) []).bind (finF [2, 3, 11, 12, 13, 14, 15, 16, 17, 18, 19, 20, 21, 22, 23, 24, 25, 26, 27, 28, 29, 30, 31, 32, 33, 34, 35, 36, 37, 38, 39, 40, 41, 42, 43, 44, 45, 46, 47, 48, 49, 50, 51, 52, 53, 54, 55, 56, 57, 58, 59, 60, 61, 62, 63, 64, 65, 66, 67, 68, 69, 70, 71, 72, 73, 74, 75, 76, 77, 78, 79, 80, 81] [⟨980, some 6, 0, 0, 69, (.prod (.int .i64) (.int .i64))⟩] [9, 980] [1070, 1072, 1073, 1075, 1076, 1078] 1015) = (swi_step u v).bind (outA (swu_St u) [.exit 0]) := by
  rintro ⟨q0, q1⟩ ⟨q2, q3, q4, q5, q6⟩
  kernel_rfl
noncomputable def swi_cond (u : swu_U) (v : swu_V) : Bool := runC (swi_step u) v
noncomputable def swi_g (u : swu_U) (v : swu_V) : Nat × swu_V := runG (swi_step u) v
theorem swi_hg : ∀ (u : swu_U) (v : swu_V), swi_cond u v = true → loopN (swi_step u) ((fun u v => runF (swi_step u) v) u v) v = some (swi_g u v) := by
  exact fun u v h => run_hg h
noncomputable def swi_m (st : Stt) : Option (Tr (Ex × Stt)) := sumM swu_read swi_cond swu_St swi_g [(0, .exit 0)] st
noncomputable def rgC_L54 : FuncId → Loops := addL 109 [0, 0, 1, 1, 1, 1, 1, 1] swi_m rgC_L52
set_option maxRecDepth 100000 in
set_option maxHeartbeats 4000000 in
theorem rgC_L54_ok : LoopsOK Try.prog rgC_L54 :=
  loop_sumF (body := (bodyOf Try.prog 109)) (c := (loopOf (bodyOf Try.prog 109) [1, 1, 1, 1, 1, 1, 0, 0])) (kinds := [.exit 0]) (allow := [(0, .exit 0)]) (St := swu_St) (step := swi_step) (W := [2, 3, 11, 12, 13, 14, 15, 16, 17, 18, 19, 20, 21, 22, 23, 24, 25, 26, 27, 28, 29, 30, 31, 32, 33, 34, 35, 36, 37, 38, 39, 40, 41, 42, 43, 44, 45, 46, 47, 48, 49, 50, 51, 52, 53, 54, 55, 56, 57, 58, 59, 60, 61, 62, 63, 64, 65, 66, 67, 68, 69, 70, 71, 72, 73, 74, 75, 76, 77, 78, 79, 80, 81]) (As := [⟨980, some 6, 0, 0, 69, (.prod (.int .i64) (.int .i64))⟩]) (ks := [9, 980]) (dd := [1070, 1072, 1073, 1075, 1076, 1078]) (nx := 1015) (n := 100000) (g := swi_g) (cond := swi_cond) (fuel := (fun u v => runF (swi_step u) v)) (read := swu_read) (by kernel_rfl) (rgC_S53_ok) (rgC_L52_ok) 7 ⟨Try.f109, by kernel_rfl, by kernel_rfl⟩ (by kernel_rfl) (by kernel_rfl) (by kernel_rfl) swi_step_eq swi_hg swu_read_ok
def swi_op (p q : Bool) : Bool := bif p then q else false
set_option maxHeartbeats 10000000 in
theorem swi_run {A B : Rl} (ha : valR A) (hb : valR B) (la : A.length ≤ 10000) (lb : B.length ≤ 10000) : swi_cond (A, B) (0, 0, 0, false, []) = true ∧ (swi_g (A, B) (0, 0, 0, false, [])).1 = 0 ∧ valR (swi_g (A, B) (0, 0, 0, false, [])).2.2.2.2.2 ∧ (swi_g (A, B) (0, 0, 0, false, [])).2.2.2.2.2 = nfR fun x => swi_op (memB A x) (memB B x) = true := by
  have wa : IntKind.wrap .i64 ((2 : Int) * (A.length : Int)) = 2 * (A.length : Int) := wid (by omega) (by omega)
  have wb : IntKind.wrap .i64 ((2 : Int) * (B.length : Int)) = 2 * (B.length : Int) := wid (by omega) (by omega)
  have cA : decide (A.length ≤ 100000) = true := decide_eq_true (by omega)
  have cB : decide (B.length ≤ 100000) = true := decide_eq_true (by omega)
  refine run_val (step := swi_step (A, B)) (Inv := fun s => ∃ (pa pb : Nat) (fr : Int) (ins : Bool) (res : Rl) (t : Int), s = ((pa : Int), (pb : Int), fr, ins, res) ∧ Swp swi_op A B pa pb fr ins res t) (μ := fun s => 2 * A.length + 2 * B.length - (s.1.toNat + s.2.1.toNat)) (Q := fun t => t.1 = 0 ∧ valR t.2.2.2.2.2 ∧ t.2.2.2.2.2 = nfR fun x => swi_op (memB A x) (memB B x) = true) ?_ _ _ (Nat.lt_succ_self _) ⟨0, 0, 0, false, [], -1048577, rfl, swp_start ha hb rfl⟩
  rintro s ⟨pa, pb, fr, ins, res, t, rfl, hs⟩
  have hla := hs.la
  have hlb := hs.lb
  have hln := hs.len
  by_cases hm : pa < 2 * A.length ∨ pb < 2 * B.length
  · have c0 : (bif decide ((pa : Int) < 2 * (A.length : Int)) then true else decide ((pb : Int) < 2 * (B.length : Int))) = true := by
      by_cases h : pa < 2 * A.length
      · rw [decide_eq_true (show (pa : Int) < 2 * (A.length : Int) by omega)]; rfl
      · rw [decide_eq_true (show (pb : Int) < 2 * (B.length : Int) by omega)]; cases decide ((pa : Int) < 2 * (A.length : Int)) <;> rfl
    have ca : decide ((pa : Int) ≤ 1000000) = true := decide_eq_true (by omega)
    have cb : decide ((pb : Int) ≤ 1000000) = true := decide_eq_true (by omega)
    have w1 : IntKind.wrap .i64 ((pa : Int) + (1 : Int)) = ((pa + 1 : Nat) : Int) := by rw [wid (by omega) (by omega)]; omega
    have w2 : IntKind.wrap .i64 ((pb : Int) + (1 : Int)) = ((pb + 1 : Nat) : Int) := by rw [wid (by omega) (by omega)]; omega
    obtain ⟨r1, r2⟩ := room16 (n := res.length + 1) (by omega)
    obtain ⟨at_, hat⟩ : ∃ z, z = min (bdR A pa) (bdR B pb) := ⟨_, rfl⟩
    have eat : (if bdR B pb < bdR A pa then bdR B pb else bdR A pa) = at_ := by rw [hat]; exact ite_min _ _
    obtain ⟨pa', hpa⟩ : ∃ z, z = if bdR A pa = at_ then pa + 1 else pa := ⟨_, rfl⟩
    obtain ⟨pb', hpb⟩ : ∃ z, z = if bdR B pb = at_ then pb + 1 else pb := ⟨_, rfl⟩
    obtain ⟨hd, hh⟩ : ∃ z, z = swi_op (decide (pa' % 2 = 1)) (decide (pb' % 2 = 1)) := ⟨_, rfl⟩
    obtain ⟨hn, more⟩ := swp_next ha hb hs hm hat hpa hpb hh
    have hla' := hn.la
    have hlb' := hn.lb
    refine ⟨.inl ((pa' : Int), (pb' : Int), (bif (bif hd then !ins else false) then at_ else fr), hd, (bif (bif ins then !hd else false) then res ++ [(fr, at_)] else res)), ?_, ⟨pa', pb', _, hd, _, at_, rfl, hn⟩, by show 2 * A.length + 2 * B.length - ((pa' : Int).toNat + (pb' : Int).toNat) < 2 * A.length + 2 * B.length - ((pa : Int).toNat + (pb : Int).toNat); omega⟩
    have gx : ∀ a b : Nat, pa' = a → pb' = b → (bif decide (a % 2 = 1) then decide (b % 2 = 1) else false) = hd := fun a b e1 e2 => by subst e1; subst e2; exact hh.symm
    clear hn hs hh
    by_cases e1 : bdR A pa = at_
    · have b1 : (bdR A pa == at_) = true := by rw [e1]; exact beq_self_eq_true _
      rw [if_pos e1] at hpa
      by_cases e2 : bdR B pb = at_
      · have b2 : (bdR B pb == at_) = true := by rw [e2]; exact beq_self_eq_true _
        rw [if_pos e2] at hpb
        have g := gx (pa + 1) (pb + 1) hpa hpb
        rw [hpa, hpb]
        clear gx
        simp only [swi_step, Tr.val, wa, wb, c0, ca, cb, cA, cB, nn_t, Int.toNat_natCast, eat, b1, b2, w1, w2, odd_t, g, r1, r2, Bool.and_self, cond_true, cond_false]
        cases ins <;> cases hd <;> rfl
      · have b2 : (bdR B pb == at_) = false := by rw [beq_eq_false_iff_ne]; exact e2
        rw [if_neg e2] at hpb
        have g := gx (pa + 1) pb hpa hpb
        rw [hpa, hpb]
        clear gx
        simp only [swi_step, Tr.val, wa, wb, c0, ca, cb, cA, cB, nn_t, Int.toNat_natCast, eat, b1, b2, w1, w2, odd_t, g, r1, r2, Bool.and_self, cond_true, cond_false]
        cases ins <;> cases hd <;> rfl
    · have b1 : (bdR A pa == at_) = false := by rw [beq_eq_false_iff_ne]; exact e1
      rw [if_neg e1] at hpa
      by_cases e2 : bdR B pb = at_
      · have b2 : (bdR B pb == at_) = true := by rw [e2]; exact beq_self_eq_true _
        rw [if_pos e2] at hpb
        have g := gx pa (pb + 1) hpa hpb
        rw [hpa, hpb]
        clear gx
        simp only [swi_step, Tr.val, wa, wb, c0, ca, cb, cA, cB, nn_t, Int.toNat_natCast, eat, b1, b2, w1, w2, odd_t, g, r1, r2, Bool.and_self, cond_true, cond_false]
        cases ins <;> cases hd <;> rfl
      · exact absurd hat (by omega)
  · have c0 : (bif decide ((pa : Int) < 2 * (A.length : Int)) then true else decide ((pb : Int) < 2 * (B.length : Int))) = false := by
      rw [decide_eq_false (show ¬ (pa : Int) < 2 * (A.length : Int) by omega), decide_eq_false (show ¬ (pb : Int) < 2 * (B.length : Int) by omega)]; rfl
    obtain ⟨f1, f2⟩ := swp_end ha hb rfl hs (by omega) (by omega)
    exact ⟨.inr (0, ((pa : Int), (pb : Int), fr, ins, res)), by simp only [swi_step, Tr.val, wa, wb, c0, cond_false], rfl, f1, f2⟩
theorem swi_nf (A B : Rl) : nfR (fun x => swi_op (memB A x) (memB B x) = true) = nfR (fun x => opE 1 (memB A x) (memB B x) = true) := by
  have e : ∀ p q, swi_op p q = opE 1 p q := fun p q => by cases p <;> cases q <;> rfl
  exact nfR_congr fun x => by rw [e]
set_option maxRecDepth 100000 in
theorem swic_tree (A : (Ty.list (.prod (.int .i64) (.int .i64))).den) (B : (Ty.list (.prod (.int .i64) (.int .i64))).den) : evalF Try.prog rgC_S53 (opens []) rgC_L54 9 109 [.one (.d false false (.prod (.int .i64) (.int .i64)) A), .one (.d false false (.prod (.int .i64) (.int .i64)) B)] = .br (((decide ((↑(List.length A) : Int) ≤ (9223372036854775807 : Int))) && (bif !valB A then true else ((decide ((↑(List.length B) : Int) ≤ (9223372036854775807 : Int))) && (bif !valB B then true else ((swi_cond (A, B) ((0 : Int), (0 : Int), (0 : Int), false, [])) && (Nat.beq (Prod.fst (swi_g (A, B) ((0 : Int), (0 : Int), (0 : Int), false, []))) (0 : Nat)))))))) (.ret (.one (.d false false (.prod (.int .i64) (.int .i64)) (bif !valB A then [] else bif !valB B then [] else Prod.snd (Prod.snd (Prod.snd (Prod.snd (Prod.snd (swi_g (A, B) ((0 : Int), (0 : Int), (0 : Int), false, [])))))))))) (.bad 116) := by kernel_rfl
theorem swic_val (A : (Ty.list (.prod (.int .i64) (.int .i64))).den) (B : (Ty.list (.prod (.int .i64) (.int .i64))).den) (hc : (decide (A.length ≤ 10000) && decide (B.length ≤ 10000)) = true) : (.br (((decide ((↑(List.length A) : Int) ≤ (9223372036854775807 : Int))) && (bif !valB A then true else ((decide ((↑(List.length B) : Int) ≤ (9223372036854775807 : Int))) && (bif !valB B then true else ((swi_cond (A, B) ((0 : Int), (0 : Int), (0 : Int), false, [])) && (Nat.beq (Prod.fst (swi_g (A, B) ((0 : Int), (0 : Int), (0 : Int), false, []))) (0 : Nat)))))))) (.ret (.one (.d false false (.prod (.int .i64) (.int .i64)) (bif !valB A then [] else bif !valB B then [] else Prod.snd (Prod.snd (Prod.snd (Prod.snd (Prod.snd (swi_g (A, B) ((0 : Int), (0 : Int), (0 : Int), false, [])))))))))) (.bad 116) : Tr AV).val = some (.one (.d false false (.prod (.int .i64) (.int .i64)) (chL A B 1))) := by
  obtain ⟨K, rfl⟩ : ∃ K : Rl, K = A := ⟨A, rfl⟩
  obtain ⟨M, rfl⟩ : ∃ M : Rl, M = B := ⟨B, rfl⟩
  rw [Bool.and_eq_true] at hc
  have hn : K.length ≤ 10000 := of_decide_eq_true hc.1
  have hm : M.length ≤ 10000 := of_decide_eq_true hc.2
  have c1 : decide ((K.length : Int) ≤ 9223372036854775807) = true := decide_eq_true (by omega)
  have c2 : decide ((M.length : Int) ≤ 9223372036854775807) = true := decide_eq_true (by omega)
  unfold chL
  show cond _ _ _ = _
  cases hv : valB K
  · simp only [c1, Bool.not_false, Bool.false_and, Bool.and_self, cond_true, cond_false, Tr.val]
  · cases hw : valB M
    · simp only [c1, c2, Bool.not_true, Bool.not_false, Bool.and_false, Bool.and_self, cond_true, cond_false, Tr.val]
    · obtain ⟨v1, v2, v3, v4⟩ := swi_run (valB_iff.1 hv) (valB_iff.1 hw) hn hm
      simp only [c1, c2, v1, v2, v4, swi_nf, Nat.beq, Bool.not_true, Bool.and_self, cond_true, cond_false, Tr.val]
noncomputable def swic_g : List AV → Option (Tr AV)
  | [.one (.d _ _ (.prod (.int .i64) (.int .i64)) A), .one (.d _ _ (.prod (.int .i64) (.int .i64)) B)] => some (.br (decide (A.length ≤ 10000) && decide (B.length ≤ 10000)) (.ret (.one (.d false false (.prod (.int .i64) (.int .i64)) (chL A B 1)))) (.bad 900))
  | _ => none
set_option maxHeartbeats 4000000 in
theorem swic_ok : FunOK Try.prog 109 swic_g := by
  refine fun_ok (by kernel_rfl) (rgC_S53_ok) (rgC_L54_ok) 9 (On := (opens [])) (fun args t h => ?_)
  unfold swic_g at h
  split at h
  · rename_i _ _ A _ _ B
    simp only [Option.some.injEq] at h
    subst h
    refine ⟨[.one (.d false false (.prod (.int .i64) (.int .i64)) A), .one (.d false false (.prod (.int .i64) (.int .i64)) B)], rfl, fun fr w us h => h, fun r hr => ?_⟩
    obtain ⟨hc, hr⟩ := br_bad hr
    simp only [Tr.val, Option.some.injEq] at hr
    subst hr
    rw [swic_tree]
    exact swic_val A B hc
  · cases h
noncomputable def rgC_S55 : Sums := addS 109 swic_g rgC_S53
theorem rgC_S55_ok : SumOK Try.prog rgC_S55 := addS_ok (swic_ok) (rgC_S53_ok)
noncomputable def swd_step (u : swu_U) (v : swu_V) : Tr (swu_V ⊕ (Nat × swu_V)) :=
  match u, v with
  | (q0, q1), (q2, q3, q4, q5, q6) => .br (bif decide (q2 < IntKind.wrap .i64 ((2 : Int) * (↑(List.length q0) : Int))) then true else decide (q3 < IntKind.wrap .i64 ((2 : Int) * (↑(List.length q1) : Int)))) (.br (decide ((0 : Int) ≤ q2) && (decide (q2 ≤ (1000000 : Int)) && decide (List.length q0 ≤ (100000 : Nat)))) (.br (decide ((0 : Int) ≤ q3) && (decide (q3 ≤ (1000000 : Int)) && decide (List.length q1 ≤ (100000 : Nat)))) (.br (bdR q0 (Int.toNat q2) == if bdR q1 (Int.toNat q3) < bdR q0 (Int.toNat q2) then bdR q1 (Int.toNat q3) else bdR q0 (Int.toNat q2)) (.br (bdR q1 (Int.toNat q3) == if bdR q1 (Int.toNat q3) < bdR q0 (Int.toNat q2) then bdR q1 (Int.toNat q3) else bdR q0 (Int.toNat q2)) (.br (bif bif Int.tmod (IntKind.wrap .i64 (q2 + (1 : Int))) (2 : Int) == (1 : Int) then !Int.tmod (IntKind.wrap .i64 (q3 + (1 : Int))) (2 : Int) == (1 : Int) else false then !q5 else false) (.br (bif q5 then !bif Int.tmod (IntKind.wrap .i64 (q2 + (1 : Int))) (2 : Int) == (1 : Int) then !Int.tmod (IntKind.wrap .i64 (q3 + (1 : Int))) (2 : Int) == (1 : Int) else false else false) (.br (decide ((List.length q6 + (1 : Nat)) * (16 : Nat) ≤ maxNew) && decide (List.length q6 + (1 : Nat) ≤ maxLen)) (.ret (.inl (IntKind.wrap .i64 (q2 + (1 : Int)), IntKind.wrap .i64 (q3 + (1 : Int)), if bdR q1 (Int.toNat q3) < bdR q0 (Int.toNat q2) then bdR q1 (Int.toNat q3) else bdR q0 (Int.toNat q2), bif Int.tmod (IntKind.wrap .i64 (q2 + (1 : Int))) (2 : Int) == (1 : Int) then !Int.tmod (IntKind.wrap .i64 (q3 + (1 : Int))) (2 : Int) == (1 : Int) else false, q6 ++ [(if bdR q1 (Int.toNat q3) < bdR q0 (Int.toNat q2) then bdR q1 (Int.toNat q3) else bdR q0 (Int.toNat q2), if bdR q1 (Int.toNat q3) < bdR q0 (Int.toNat q2) then bdR q1 (Int.toNat q3) else bdR q0 (Int.toNat q2))]))) (.bad 71)) (.ret (.inl (IntKind.wrap .i64 (q2 + (1 : Int)), IntKind.wrap .i64 (q3 + (1 : Int)), if bdR q1 (Int.toNat q3) < bdR q0 (Int.toNat q2) then bdR q1 (Int.toNat q3) else bdR q0 (Int.toNat q2), bif Int.tmod (IntKind.wrap .i64 (q2 + (1 : Int))) (2 : Int) == (1 : Int) then !Int.tmod (IntKind.wrap .i64 (q3 + (1 : Int))) (2 : Int) == (1 : Int) else false, q6)))) (.br (bif q5 then !bif Int.tmod (IntKind.wrap .i64 (q2 + (1 : Int))) (2 : Int) == (1 : Int) then !Int.tmod (IntKind.wrap .i64 (q3 + (1 : Int))) (2 : Int) == (1 : Int) else false else false) (.br (decide ((List.length q6 + (1 : Nat)) * (16 : Nat) ≤ maxNew) && decide (List.length q6 + (1 : Nat) ≤ maxLen)) (.ret (.inl (IntKind.wrap .i64 (q2 + (1 : Int)), IntKind.wrap .i64 (q3 + (1 : Int)), q4, bif Int.tmod (IntKind.wrap .i64 (q2 + (1 : Int))) (2 : Int) == (1 : Int) then !Int.tmod (IntKind.wrap .i64 (q3 + (1 : Int))) (2 : Int) == (1 : Int) else false, q6 ++ [(q4, if bdR q1 (Int.toNat q3) < bdR q0 (Int.toNat q2) then bdR q1 (Int.toNat q3) else bdR q0 (Int.toNat q2))]))) (.bad 71)) (.ret (.inl (IntKind.wrap .i64 (q2 + (1 : Int)), IntKind.wrap .i64 (q3 + (1 : Int)), q4, bif Int.tmod (IntKind.wrap .i64 (q2 + (1 : Int))) (2 : Int) == (1 : Int) then !Int.tmod (IntKind.wrap .i64 (q3 + (1 : Int))) (2 : Int) == (1 : Int) else false, q6))))) (.br (bif bif Int.tmod (IntKind.wrap .i64 (q2 + (1 : Int))) (2 : Int) == (1 : Int) then !Int.tmod q3 (2 : Int) == (1 : Int) else false then !q5 else false) (.br (bif q5 then !bif Int.tmod (IntKind.wrap .i64 (q2 + (1 : Int))) (2 : Int) == (1 : Int) then !Int.tmod q3 (2 : Int) == (1 : Int) else false else false) (.br (decide ((List.length q6 + (1 : Nat)) * (16 : Nat) ≤ maxNew) && decide (List.length q6 + (1 : Nat) ≤ maxLen)) (.ret (.inl (IntKind.wrap .i64 (q2 + (1 : Int)), q3, if bdR q1 (Int.toNat q3) < bdR q0 (Int.toNat q2) then bdR q1 (Int.toNat q3) else bdR q0 (Int.toNat q2), bif Int.tmod (IntKind.wrap .i64 (q2 + (1 : Int))) (2 : Int) == (1 : Int) then !Int.tmod q3 (2 : Int) == (1 : Int) else false, q6 ++ [(if bdR q1 (Int.toNat q3) < bdR q0 (Int.toNat q2) then bdR q1 (Int.toNat q3) else bdR q0 (Int.toNat q2), if bdR q1 (Int.toNat q3) < bdR q0 (Int.toNat q2) then bdR q1 (Int.toNat q3) else bdR q0 (Int.toNat q2))]))) (.bad 71)) (.ret (.inl (IntKind.wrap .i64 (q2 + (1 : Int)), q3, if bdR q1 (Int.toNat q3) < bdR q0 (Int.toNat q2) then bdR q1 (Int.toNat q3) else bdR q0 (Int.toNat q2), bif Int.tmod (IntKind.wrap .i64 (q2 + (1 : Int))) (2 : Int) == (1 : Int) then !Int.tmod q3 (2 : Int) == (1 : Int) else false, q6)))) (.br (bif q5 then !bif Int.tmod (IntKind.wrap .i64 (q2 + (1 : Int))) (2 : Int) == (1 : Int) then !Int.tmod q3 (2 : Int) == (1 : Int) else false else false) (.br (decide ((List.length q6 + (1 : Nat)) * (16 : Nat) ≤ maxNew) && decide (List.length q6 + (1 : Nat) ≤ maxLen)) (.ret (.inl (IntKind.wrap .i64 (q2 + (1 : Int)), q3, q4, bif Int.tmod (IntKind.wrap .i64 (q2 + (1 : Int))) (2 : Int) == (1 : Int) then !Int.tmod q3 (2 : Int) == (1 : Int) else false, q6 ++ [(q4, if bdR q1 (Int.toNat q3) < bdR q0 (Int.toNat q2) then bdR q1 (Int.toNat q3) else bdR q0 (Int.toNat q2))]))) (.bad 71)) (.ret (.inl (IntKind.wrap .i64 (q2 + (1 : Int)), q3, q4, bif Int.tmod (IntKind.wrap .i64 (q2 + (1 : Int))) (2 : Int) == (1 : Int) then !Int.tmod q3 (2 : Int) == (1 : Int) else false, q6)))))) (.br (bdR q1 (Int.toNat q3) == if bdR q1 (Int.toNat q3) < bdR q0 (Int.toNat q2) then bdR q1 (Int.toNat q3) else bdR q0 (Int.toNat q2)) (.br (bif bif Int.tmod q2 (2 : Int) == (1 : Int) then !Int.tmod (IntKind.wrap .i64 (q3 + (1 : Int))) (2 : Int) == (1 : Int) else false then !q5 else false) (.br (bif q5 then !bif Int.tmod q2 (2 : Int) == (1 : Int) then !Int.tmod (IntKind.wrap .i64 (q3 + (1 : Int))) (2 : Int) == (1 : Int) else false else false) (.br (decide ((List.length q6 + (1 : Nat)) * (16 : Nat) ≤ maxNew) && decide (List.length q6 + (1 : Nat) ≤ maxLen)) (.ret (.inl (q2, IntKind.wrap .i64 (q3 + (1 : Int)), if bdR q1 (Int.toNat q3) < bdR q0 (Int.toNat q2) then bdR q1 (Int.toNat q3) else bdR q0 (Int.toNat q2), bif Int.tmod q2 (2 : Int) == (1 : Int) then !Int.tmod (IntKind.wrap .i64 (q3 + (1 : Int))) (2 : Int) == (1 : Int) else false, q6 ++ [(if bdR q1 (Int.toNat q3) < bdR q0 (Int.toNat q2) then bdR q1 (Int.toNat q3) else bdR q0 (Int.toNat q2), if bdR q1 (Int.toNat q3) < bdR q0 (Int.toNat q2) then bdR q1 (Int.toNat q3) else bdR q0 (Int.toNat q2))]))) (.bad 71)) (.ret (.inl (q2, IntKind.wrap .i64 (q3 + (1 : Int)), if bdR q1 (Int.toNat q3) < bdR q0 (Int.toNat q2) then bdR q1 (Int.toNat q3) else bdR q0 (Int.toNat q2), bif Int.tmod q2 (2 : Int) == (1 : Int) then !Int.tmod (IntKind.wrap .i64 (q3 + (1 : Int))) (2 : Int) == (1 : Int) else false, q6)))) (.br (bif q5 then !bif Int.tmod q2 (2 : Int) == (1 : Int) then !Int.tmod (IntKind.wrap .i64 (q3 + (1 : Int))) (2 : Int) == (1 : Int) else false else false) (.br (decide ((List.length q6 + (1 : Nat)) * (16 : Nat) ≤ maxNew) && decide (List.length q6 + (1 : Nat) ≤ maxLen)) (.ret (.inl (q2, IntKind.wrap .i64 (q3 + (1 : Int)), q4, bif Int.tmod q2 (2 : Int) == (1 : Int) then !Int.tmod (IntKind.wrap .i64 (q3 + (1 : Int))) (2 : Int) == (1 : Int) else false, q6 ++ [(q4, if bdR q1 (Int.toNat q3) < bdR q0 (Int.toNat q2) then bdR q1 (Int.toNat q3) else bdR q0 (Int.toNat q2))]))) (.bad 71)) (.ret (.inl (q2, IntKind.wrap .i64 (q3 + (1 : Int)), q4, bif Int.tmod q2 (2 : Int) == (1 : Int) then !Int.tmod (IntKind.wrap .i64 (q3 + (1 : Int))) (2 : Int) == (1 : Int) else false, q6))))) (.br (bif bif Int.tmod q2 (2 : Int) == (1 : Int) then !Int.tmod q3 (2 : Int) == (1 : Int) else false then !q5 else false) (.br (bif q5 then !bif Int.tmod q2 (2 : Int) == (1 : Int) then !Int.tmod q3 (2 : Int) == (1 : Int) else false else false) (.br (decide ((List.length q6 + (1 : Nat)) * (16 : Nat) ≤ maxNew) && decide (List.length q6 + (1 : Nat) ≤ maxLen)) (.ret (.inl (q2, q3, if bdR q1 (Int.toNat q3) < bdR q0 (Int.toNat q2) then bdR q1 (Int.toNat q3) else bdR q0 (Int.toNat q2), bif Int.tmod q2 (2 : Int) == (1 : Int) then !Int.tmod q3 (2 : Int) == (1 : Int) else false, q6 ++ [(if bdR q1 (Int.toNat q3) < bdR q0 (Int.toNat q2) then bdR q1 (Int.toNat q3) else bdR q0 (Int.toNat q2), if bdR q1 (Int.toNat q3) < bdR q0 (Int.toNat q2) then bdR q1 (Int.toNat q3) else bdR q0 (Int.toNat q2))]))) (.bad 71)) (.ret (.inl (q2, q3, if bdR q1 (Int.toNat q3) < bdR q0 (Int.toNat q2) then bdR q1 (Int.toNat q3) else bdR q0 (Int.toNat q2), bif Int.tmod q2 (2 : Int) == (1 : Int) then !Int.tmod q3 (2 : Int) == (1 : Int) else false, q6)))) (.br (bif q5 then !bif Int.tmod q2 (2 : Int) == (1 : Int) then !Int.tmod q3 (2 : Int) == (1 : Int) else false else false) (.br (decide ((List.length q6 + (1 : Nat)) * (16 : Nat) ≤ maxNew) && decide (List.length q6 + (1 : Nat) ≤ maxLen)) (.ret (.inl (q2, q3, q4, bif Int.tmod q2 (2 : Int) == (1 : Int) then !Int.tmod q3 (2 : Int) == (1 : Int) else false, q6 ++ [(q4, if bdR q1 (Int.toNat q3) < bdR q0 (Int.toNat q2) then bdR q1 (Int.toNat q3) else bdR q0 (Int.toNat q2))]))) (.bad 71)) (.ret (.inl (q2, q3, q4, bif Int.tmod q2 (2 : Int) == (1 : Int) then !Int.tmod q3 (2 : Int) == (1 : Int) else false, q6))))))) (.bad 900)) (.bad 900)) (.ret (.inr (0, (q2, q3, q4, q5, q6))))
set_option maxRecDepth 100000 in
set_option maxHeartbeats 4000000 in
theorem swd_step_eq : ∀ (u : swu_U) (v : swu_V), (evalC Try.prog (evalB Try.prog rgC_S55 (opens []) rgC_L54 7).1 (evalB Try.prog rgC_S55 (opens []) rgC_L54 7).2 (opens []) (rgC_L54 112) 100000 (0 :: [0, 0, 1, 1, 1, 1, 1, 1]) (loopOf (bodyOf Try.prog 112) [1, 1, 1, 1, 1, 1, 0, 0]) (swu_St u v) []).bind (finF [2, 3, 11, 12, 13, 14, 15, 16, 17, 18, 19, 20, 21, 22, 23, 24, 25, 26, 27, 28, 29, 30, 31, 32, 33, 34, 35, 36, 37, 38, 39, 40, 41, 42, 43, 44, 45, 46, 47, 48, 49, 50, 51, 52, 53, 54, 55, 56, 57, 58, 59, 60, 61, 62, 63, 64, 65, 66, 67, 68, 69, 70, 71, 72, 73, 74, 75, 76, 77, 78, 79, 80, 81] [⟨980, some 6, 0, 0, 69, (.prod (.int .i64) (.int .i64))⟩] [9, 980] [1070, 1072, 1073, 1075, 1076, 1078] 1015) = (swd_step u v).bind (outA (swu_St u) [.exit 0]) := by
  rintro ⟨q0, q1⟩ ⟨q2, q3, q4, q5, q6⟩
  kernel_rfl
noncomputable def swd_cond (u : swu_U) (v : swu_V) : Bool := runC (swd_step u) v
noncomputable def swd_g (u : swu_U) (v : swu_V) : Nat × swu_V := runG (swd_step u) v
theorem swd_hg : ∀ (u : swu_U) (v : swu_V), swd_cond u v = true → loopN (swd_step u) ((fun u v => runF (swd_step u) v) u v) v = some (swd_g u v) := by
  exact fun u v h => run_hg h
noncomputable def swd_m (st : Stt) : Option (Tr (Ex × Stt)) := sumM swu_read swd_cond swu_St swd_g [(0, .exit 0)] st
noncomputable def rgC_L56 : FuncId → Loops := addL 112 [0, 0, 1, 1, 1, 1, 1, 1] swd_m rgC_L54
set_option maxRecDepth 100000 in
set_option maxHeartbeats 4000000 in
theorem rgC_L56_ok : LoopsOK Try.prog rgC_L56 :=
  loop_sumF (body := (bodyOf Try.prog 112)) (c := (loopOf (bodyOf Try.prog 112) [1, 1, 1, 1, 1, 1, 0, 0])) (kinds := [.exit 0]) (allow := [(0, .exit 0)]) (St := swu_St) (step := swd_step) (W := [2, 3, 11, 12, 13, 14, 15, 16, 17, 18, 19, 20, 21, 22, 23, 24, 25, 26, 27, 28, 29, 30, 31, 32, 33, 34, 35, 36, 37, 38, 39, 40, 41, 42, 43, 44, 45, 46, 47, 48, 49, 50, 51, 52, 53, 54, 55, 56, 57, 58, 59, 60, 61, 62, 63, 64, 65, 66, 67, 68, 69, 70, 71, 72, 73, 74, 75, 76, 77, 78, 79, 80, 81]) (As := [⟨980, some 6, 0, 0, 69, (.prod (.int .i64) (.int .i64))⟩]) (ks := [9, 980]) (dd := [1070, 1072, 1073, 1075, 1076, 1078]) (nx := 1015) (n := 100000) (g := swd_g) (cond := swd_cond) (fuel := (fun u v => runF (swd_step u) v)) (read := swu_read) (by kernel_rfl) (rgC_S55_ok) (rgC_L54_ok) 7 ⟨Try.f112, by kernel_rfl, by kernel_rfl⟩ (by kernel_rfl) (by kernel_rfl) (by kernel_rfl) swd_step_eq swd_hg swu_read_ok
def swd_op (p q : Bool) : Bool := bif p then !q else false
set_option maxHeartbeats 10000000 in
theorem swd_run {A B : Rl} (ha : valR A) (hb : valR B) (la : A.length ≤ 10000) (lb : B.length ≤ 10000) : swd_cond (A, B) (0, 0, 0, false, []) = true ∧ (swd_g (A, B) (0, 0, 0, false, [])).1 = 0 ∧ valR (swd_g (A, B) (0, 0, 0, false, [])).2.2.2.2.2 ∧ (swd_g (A, B) (0, 0, 0, false, [])).2.2.2.2.2 = nfR fun x => swd_op (memB A x) (memB B x) = true := by
  have wa : IntKind.wrap .i64 ((2 : Int) * (A.length : Int)) = 2 * (A.length : Int) := wid (by omega) (by omega)
  have wb : IntKind.wrap .i64 ((2 : Int) * (B.length : Int)) = 2 * (B.length : Int) := wid (by omega) (by omega)
  have cA : decide (A.length ≤ 100000) = true := decide_eq_true (by omega)
  have cB : decide (B.length ≤ 100000) = true := decide_eq_true (by omega)
  refine run_val (step := swd_step (A, B)) (Inv := fun s => ∃ (pa pb : Nat) (fr : Int) (ins : Bool) (res : Rl) (t : Int), s = ((pa : Int), (pb : Int), fr, ins, res) ∧ Swp swd_op A B pa pb fr ins res t) (μ := fun s => 2 * A.length + 2 * B.length - (s.1.toNat + s.2.1.toNat)) (Q := fun t => t.1 = 0 ∧ valR t.2.2.2.2.2 ∧ t.2.2.2.2.2 = nfR fun x => swd_op (memB A x) (memB B x) = true) ?_ _ _ (Nat.lt_succ_self _) ⟨0, 0, 0, false, [], -1048577, rfl, swp_start ha hb rfl⟩
  rintro s ⟨pa, pb, fr, ins, res, t, rfl, hs⟩
  have hla := hs.la
  have hlb := hs.lb
  have hln := hs.len
  by_cases hm : pa < 2 * A.length ∨ pb < 2 * B.length
  · have c0 : (bif decide ((pa : Int) < 2 * (A.length : Int)) then true else decide ((pb : Int) < 2 * (B.length : Int))) = true := by
      by_cases h : pa < 2 * A.length
      · rw [decide_eq_true (show (pa : Int) < 2 * (A.length : Int) by omega)]; rfl
      · rw [decide_eq_true (show (pb : Int) < 2 * (B.length : Int) by omega)]; cases decide ((pa : Int) < 2 * (A.length : Int)) <;> rfl
    have ca : decide ((pa : Int) ≤ 1000000) = true := decide_eq_true (by omega)
    have cb : decide ((pb : Int) ≤ 1000000) = true := decide_eq_true (by omega)
    have w1 : IntKind.wrap .i64 ((pa : Int) + (1 : Int)) = ((pa + 1 : Nat) : Int) := by rw [wid (by omega) (by omega)]; omega
    have w2 : IntKind.wrap .i64 ((pb : Int) + (1 : Int)) = ((pb + 1 : Nat) : Int) := by rw [wid (by omega) (by omega)]; omega
    obtain ⟨r1, r2⟩ := room16 (n := res.length + 1) (by omega)
    obtain ⟨at_, hat⟩ : ∃ z, z = min (bdR A pa) (bdR B pb) := ⟨_, rfl⟩
    have eat : (if bdR B pb < bdR A pa then bdR B pb else bdR A pa) = at_ := by rw [hat]; exact ite_min _ _
    obtain ⟨pa', hpa⟩ : ∃ z, z = if bdR A pa = at_ then pa + 1 else pa := ⟨_, rfl⟩
    obtain ⟨pb', hpb⟩ : ∃ z, z = if bdR B pb = at_ then pb + 1 else pb := ⟨_, rfl⟩
    obtain ⟨hd, hh⟩ : ∃ z, z = swd_op (decide (pa' % 2 = 1)) (decide (pb' % 2 = 1)) := ⟨_, rfl⟩
    obtain ⟨hn, more⟩ := swp_next ha hb hs hm hat hpa hpb hh
    have hla' := hn.la
    have hlb' := hn.lb
    refine ⟨.inl ((pa' : Int), (pb' : Int), (bif (bif hd then !ins else false) then at_ else fr), hd, (bif (bif ins then !hd else false) then res ++ [(fr, at_)] else res)), ?_, ⟨pa', pb', _, hd, _, at_, rfl, hn⟩, by show 2 * A.length + 2 * B.length - ((pa' : Int).toNat + (pb' : Int).toNat) < 2 * A.length + 2 * B.length - ((pa : Int).toNat + (pb : Int).toNat); omega⟩
    have gx : ∀ a b : Nat, pa' = a → pb' = b → (bif decide (a % 2 = 1) then !decide (b % 2 = 1) else false) = hd := fun a b e1 e2 => by subst e1; subst e2; exact hh.symm
    clear hn hs hh
    by_cases e1 : bdR A pa = at_
    · have b1 : (bdR A pa == at_) = true := by rw [e1]; exact beq_self_eq_true _
      rw [if_pos e1] at hpa
      by_cases e2 : bdR B pb = at_
      · have b2 : (bdR B pb == at_) = true := by rw [e2]; exact beq_self_eq_true _
        rw [if_pos e2] at hpb
        have g := gx (pa + 1) (pb + 1) hpa hpb
        rw [hpa, hpb]
        clear gx
        simp only [swd_step, Tr.val, wa, wb, c0, ca, cb, cA, cB, nn_t, Int.toNat_natCast, eat, b1, b2, w1, w2, odd_t, g, r1, r2, Bool.and_self, cond_true, cond_false]
        cases ins <;> cases hd <;> rfl
      · have b2 : (bdR B pb == at_) = false := by rw [beq_eq_false_iff_ne]; exact e2
        rw [if_neg e2] at hpb
        have g := gx (pa + 1) pb hpa hpb
        rw [hpa, hpb]
        clear gx
        simp only [swd_step, Tr.val, wa, wb, c0, ca, cb, cA, cB, nn_t, Int.toNat_natCast, eat, b1, b2, w1, w2, odd_t, g, r1, r2, Bool.and_self, cond_true, cond_false]
        cases ins <;> cases hd <;> rfl
    · have b1 : (bdR A pa == at_) = false := by rw [beq_eq_false_iff_ne]; exact e1
      rw [if_neg e1] at hpa
      by_cases e2 : bdR B pb = at_
      · have b2 : (bdR B pb == at_) = true := by rw [e2]; exact beq_self_eq_true _
        rw [if_pos e2] at hpb
        have g := gx pa (pb + 1) hpa hpb
        rw [hpa, hpb]
        clear gx
        simp only [swd_step, Tr.val, wa, wb, c0, ca, cb, cA, cB, nn_t, Int.toNat_natCast, eat, b1, b2, w1, w2, odd_t, g, r1, r2, Bool.and_self, cond_true, cond_false]
        cases ins <;> cases hd <;> rfl
      · exact absurd hat (by omega)
  · have c0 : (bif decide ((pa : Int) < 2 * (A.length : Int)) then true else decide ((pb : Int) < 2 * (B.length : Int))) = false := by
      rw [decide_eq_false (show ¬ (pa : Int) < 2 * (A.length : Int) by omega), decide_eq_false (show ¬ (pb : Int) < 2 * (B.length : Int) by omega)]; rfl
    obtain ⟨f1, f2⟩ := swp_end ha hb rfl hs (by omega) (by omega)
    exact ⟨.inr (0, ((pa : Int), (pb : Int), fr, ins, res)), by simp only [swd_step, Tr.val, wa, wb, c0, cond_false], rfl, f1, f2⟩
theorem swd_nf (A B : Rl) : nfR (fun x => swd_op (memB A x) (memB B x) = true) = nfR (fun x => opE 0 (memB A x) (memB B x) = true) := by
  have e : ∀ p q, swd_op p q = opE 0 p q := fun p q => by cases p <;> cases q <;> rfl
  exact nfR_congr fun x => by rw [e]
set_option maxRecDepth 100000 in
theorem swdc_tree (A : (Ty.list (.prod (.int .i64) (.int .i64))).den) (B : (Ty.list (.prod (.int .i64) (.int .i64))).den) : evalF Try.prog rgC_S55 (opens []) rgC_L56 9 112 [.one (.d false false (.prod (.int .i64) (.int .i64)) A), .one (.d false false (.prod (.int .i64) (.int .i64)) B)] = .br (((decide ((↑(List.length A) : Int) ≤ (9223372036854775807 : Int))) && (bif !valB A then true else ((decide ((↑(List.length B) : Int) ≤ (9223372036854775807 : Int))) && (bif !valB B then true else ((swd_cond (A, B) ((0 : Int), (0 : Int), (0 : Int), false, [])) && (Nat.beq (Prod.fst (swd_g (A, B) ((0 : Int), (0 : Int), (0 : Int), false, []))) (0 : Nat)))))))) (.ret (.one (.d false false (.prod (.int .i64) (.int .i64)) (bif !valB A then [] else bif !valB B then [] else Prod.snd (Prod.snd (Prod.snd (Prod.snd (Prod.snd (swd_g (A, B) ((0 : Int), (0 : Int), (0 : Int), false, [])))))))))) (.bad 116) := by kernel_rfl
theorem swdc_val (A : (Ty.list (.prod (.int .i64) (.int .i64))).den) (B : (Ty.list (.prod (.int .i64) (.int .i64))).den) (hc : (decide (A.length ≤ 10000) && decide (B.length ≤ 10000)) = true) : (.br (((decide ((↑(List.length A) : Int) ≤ (9223372036854775807 : Int))) && (bif !valB A then true else ((decide ((↑(List.length B) : Int) ≤ (9223372036854775807 : Int))) && (bif !valB B then true else ((swd_cond (A, B) ((0 : Int), (0 : Int), (0 : Int), false, [])) && (Nat.beq (Prod.fst (swd_g (A, B) ((0 : Int), (0 : Int), (0 : Int), false, []))) (0 : Nat)))))))) (.ret (.one (.d false false (.prod (.int .i64) (.int .i64)) (bif !valB A then [] else bif !valB B then [] else Prod.snd (Prod.snd (Prod.snd (Prod.snd (Prod.snd (swd_g (A, B) ((0 : Int), (0 : Int), (0 : Int), false, [])))))))))) (.bad 116) : Tr AV).val = some (.one (.d false false (.prod (.int .i64) (.int .i64)) (chL A B 0))) := by
  obtain ⟨K, rfl⟩ : ∃ K : Rl, K = A := ⟨A, rfl⟩
  obtain ⟨M, rfl⟩ : ∃ M : Rl, M = B := ⟨B, rfl⟩
  rw [Bool.and_eq_true] at hc
  have hn : K.length ≤ 10000 := of_decide_eq_true hc.1
  have hm : M.length ≤ 10000 := of_decide_eq_true hc.2
  have c1 : decide ((K.length : Int) ≤ 9223372036854775807) = true := decide_eq_true (by omega)
  have c2 : decide ((M.length : Int) ≤ 9223372036854775807) = true := decide_eq_true (by omega)
  unfold chL
  show cond _ _ _ = _
  cases hv : valB K
  · simp only [c1, Bool.not_false, Bool.false_and, Bool.and_self, cond_true, cond_false, Tr.val]
  · cases hw : valB M
    · simp only [c1, c2, Bool.not_true, Bool.not_false, Bool.and_false, Bool.and_self, cond_true, cond_false, Tr.val]
    · obtain ⟨v1, v2, v3, v4⟩ := swd_run (valB_iff.1 hv) (valB_iff.1 hw) hn hm
      simp only [c1, c2, v1, v2, v4, swd_nf, Nat.beq, Bool.not_true, Bool.and_self, cond_true, cond_false, Tr.val]
noncomputable def swdc_g : List AV → Option (Tr AV)
  | [.one (.d _ _ (.prod (.int .i64) (.int .i64)) A), .one (.d _ _ (.prod (.int .i64) (.int .i64)) B)] => some (.br (decide (A.length ≤ 10000) && decide (B.length ≤ 10000)) (.ret (.one (.d false false (.prod (.int .i64) (.int .i64)) (chL A B 0)))) (.bad 900))
  | _ => none
set_option maxHeartbeats 4000000 in
theorem swdc_ok : FunOK Try.prog 112 swdc_g := by
  refine fun_ok (by kernel_rfl) (rgC_S55_ok) (rgC_L56_ok) 9 (On := (opens [])) (fun args t h => ?_)
  unfold swdc_g at h
  split at h
  · rename_i _ _ A _ _ B
    simp only [Option.some.injEq] at h
    subst h
    refine ⟨[.one (.d false false (.prod (.int .i64) (.int .i64)) A), .one (.d false false (.prod (.int .i64) (.int .i64)) B)], rfl, fun fr w us h => h, fun r hr => ?_⟩
    obtain ⟨hc, hr⟩ := br_bad hr
    simp only [Tr.val, Option.some.injEq] at hr
    subst hr
    rw [swdc_tree]
    exact swdc_val A B hc
  · cases h
noncomputable def rgC_S57 : Sums := addS 112 swdc_g rgC_S55
theorem rgC_S57_ok : SumOK Try.prog rgC_S57 := addS_ok (swdc_ok) (rgC_S55_ok)
end Go.Proofs.Ytacgchandefjgaa
