/-
  Texts in one: Sup, SuB.
-/
import Derived.Test.YtacgchandefjgaaScn
import Derived.Test.YtacgchandefjgaaMor
import Derived.Test.YtacgchandefjgaaMoD
import Derived.Test.YtacgchandefjgaaProg
import Derived.Test.YtacgchandefjgaaFvX
import Derived.Test.YtacgchandefjgaaFvZ
import Derived.Test.YtacgchandefjgaaAut
import Derived.Test.YtacgchandefjgaaRd
import Derived.Test.YtacgchandefjgaaPl
import Derived.Test.YtacgchandefjgaaRgB
import Derived.Test.YtacgchandefjgaaRgC
import Derived.Test.YtacgchandefjgaaRgD
import Derived.Test.YtacgchandefjgaaMoB
import Derived.Test.YtacgchandefjgaaMoC
import Derived.Test.YtacgchandefjgaaRgJ
namespace Go.Proofs.Ytacgchandefjgaa
open Go
theorem dl_val (R : Rg) (k : Int) : valG (dlG R k) := by
  unfold dlG
  cases rchB k && valGB R && fitB R k
  · exact valG_nil
  · exact sq_val _ _ _
noncomputable def ovG (R B : Rg) (k : Int) : Rg := opR 0 R (dlG B k)
theorem ov_val (R B : Rg) (k : Int) : valG (ovG R B k) := opR_val _ _ _
theorem ov_mem {R B : Rg} {k : Int} (h : valG R) (x y : Int) : memG (ovG R B k) x y = (memG R x y && !memG (dlG B k) x y) := opR_mem h (dl_val _ _) 0 x y
end Go.Proofs.Ytacgchandefjgaa

namespace Go.Proofs.Ytacgchandefjgaa
open Go
set_option maxRecDepth 100000 in
theorem witc_tree (A : (Ty.list (.prod (.int .i64) (.list (.prod (.int .i64) (.int .i64))))).den) (B : (Ty.list (.prod (.int .i64) (.list (.prod (.int .i64) (.int .i64))))).den) : evalF Try.prog rgJ_S54 (opens []) rgJ_L53 9 38 [.ag [.d false false (.prod (.int .i64) (.list (.prod (.int .i64) (.int .i64)))) A], .ag [.d false false (.prod (.int .i64) (.list (.prod (.int .i64) (.int .i64)))) B]] = .br (((szG A) && (bif valGB A then ((szG B) && (bif valGB B then (szG A && szG B) else true)) else true))) (.ret (.one (.v false (.bool (bif valGB A then bif valGB B then (↑(List.length (opR (0 : Int) A B)) : Int) == (0 : Int) else false else false))))) (.bad 116) := by kernel_rfl
theorem witc_val (A : (Ty.list (.prod (.int .i64) (.list (.prod (.int .i64) (.int .i64))))).den) (B : (Ty.list (.prod (.int .i64) (.list (.prod (.int .i64) (.int .i64))))).den) (hc : (szG A && szG B) = true) : (.br (((szG A) && (bif valGB A then ((szG B) && (bif valGB B then (szG A && szG B) else true)) else true))) (.ret (.one (.v false (.bool (bif valGB A then bif valGB B then (↑(List.length (opR (0 : Int) A B)) : Int) == (0 : Int) else false else false))))) (.bad 116) : Tr AV).val = some (.one (.v false (.bool (withinG A B)))) := by
  obtain ⟨K, rfl⟩ : ∃ K : Rg, K = A := ⟨A, rfl⟩
  obtain ⟨M, rfl⟩ : ∃ K : Rg, K = B := ⟨B, rfl⟩
  rw [Bool.and_eq_true] at hc
  have h1 : szG K = true := hc.1
  have h2 : szG M = true := hc.2
  have e : (((opR 0 K M).length : Int) == (0 : Int)) = decide (opR 0 K M = []) := by
    rw [Bool.eq_iff_iff, beq_iff_eq, decide_eq_true_eq, ← List.length_eq_zero_iff]
    omega
  unfold withinG
  show cond _ _ _ = _
  rw [e]
  cases hv : valGB K
  · simp only [h1, Bool.and_self, Bool.false_and, cond_true, cond_false, Tr.val]
  · cases hw : valGB M
    · simp only [h1, h2, Bool.and_self, Bool.and_false, Bool.false_and, cond_true, cond_false, Tr.val]
    · simp only [h1, h2, Bool.and_self, Bool.true_and, cond_true, Tr.val]
noncomputable def witc_g : List AV → Option (Tr AV)
  | [.ag [.d _ _ (.prod (.int .i64) (.list (.prod (.int .i64) (.int .i64)))) A], .ag [.d _ _ (.prod (.int .i64) (.list (.prod (.int .i64) (.int .i64)))) B]] => some (.br (szG A && szG B) (.ret (.one (.v false (.bool (withinG A B))))) (.bad 900))
  | _ => none
set_option maxHeartbeats 4000000 in
theorem witc_ok : FunOK Try.prog 38 witc_g := by
  refine fun_ok (by kernel_rfl) (rgJ_S54_ok) (rgJ_L53_ok) 9 (On := (opens [])) (fun args t h => ?_)
  unfold witc_g at h
  split at h
  · rename_i _ _ A _ _ B
    simp only [Option.some.injEq] at h
    subst h
    refine ⟨[.ag [.d false false (.prod (.int .i64) (.list (.prod (.int .i64) (.int .i64)))) A], .ag [.d false false (.prod (.int .i64) (.list (.prod (.int .i64) (.int .i64)))) B]], rfl, fun fr w us h => h, fun r hr => ?_⟩
    obtain ⟨hc, hr⟩ := br_bad hr
    simp only [Tr.val, Option.some.injEq] at hr
    subst hr
    rw [witc_tree]
    exact witc_val A B hc
  · cases h
noncomputable def suB_S51 : Sums := addS 38 witc_g rgJ_S54
theorem suB_S51_ok : SumOK Try.prog suB_S51 := addS_ok (witc_ok) (rgJ_S54_ok)
noncomputable def ovE (R B : Rg) (k : Int) : Int := bif valGB R then chkE B k else 1
noncomputable def ovR (R B : Rg) (k : Int) : Rg := bif ovE R B k == 0 then ovG R B k else []
theorem ovR_val (R B : Rg) (k : Int) : valG (ovR R B k) := by
  unfold ovR
  cases ovE R B k == 0
  · exact valG_nil
  · exact ov_val _ _ _
set_option maxRecDepth 100000 in
theorem ovc_tree (R : (Ty.list (.prod (.int .i64) (.list (.prod (.int .i64) (.int .i64))))).den) (B : (Ty.list (.prod (.int .i64) (.list (.prod (.int .i64) (.int .i64))))).den) (k : Int) : evalF Try.prog suB_S51 (opens []) rgJ_L53 9 29 [.ag [.d false false (.prod (.int .i64) (.list (.prod (.int .i64) (.int .i64)))) R], .ag [.d false false (.prod (.int .i64) (.list (.prod (.int .i64) (.int .i64)))) B], .one (.v false (.int .i64 k))] = .br (((szG R) && (bif !valGB R then true else ((szG B) && (bif chkE B k != (0 : Int) then true else (szG R && szG (dlG B k))))))) (.ret (.tup [(true, [.d false false (.prod (.int .i64) (.list (.prod (.int .i64) (.int .i64)))) (bif !valGB R then [] else bif chkE B k != (0 : Int) then [] else opR (0 : Int) R (dlG B k))]), (false, [.v false (.int .i64 (bif !valGB R then (1 : Int) else bif chkE B k != (0 : Int) then chkE B k else (0 : Int)))])])) (.bad 116) := by kernel_rfl
theorem ovc_val (R : (Ty.list (.prod (.int .i64) (.list (.prod (.int .i64) (.int .i64))))).den) (B : (Ty.list (.prod (.int .i64) (.list (.prod (.int .i64) (.int .i64))))).den) (k : Int) (hc : (szG R && szG B) = true) : (.br (((szG R) && (bif !valGB R then true else ((szG B) && (bif chkE B k != (0 : Int) then true else (szG R && szG (dlG B k))))))) (.ret (.tup [(true, [.d false false (.prod (.int .i64) (.list (.prod (.int .i64) (.int .i64)))) (bif !valGB R then [] else bif chkE B k != (0 : Int) then [] else opR (0 : Int) R (dlG B k))]), (false, [.v false (.int .i64 (bif !valGB R then (1 : Int) else bif chkE B k != (0 : Int) then chkE B k else (0 : Int)))])])) (.bad 116) : Tr AV).val = some (.tup [(true, [.d false false (.prod (.int .i64) (.list (.prod (.int .i64) (.int .i64)))) (ovR R B k)]), (false, [.v false (.int .i64 (ovE R B k))])]) := by
  obtain ⟨K, rfl⟩ : ∃ K : Rg, K = R := ⟨R, rfl⟩
  obtain ⟨M, rfl⟩ : ∃ K : Rg, K = B := ⟨B, rfl⟩
  rw [Bool.and_eq_true] at hc
  have h1 : szG K = true := hc.1
  have h2 : szG M = true := hc.2
  have h3 : szG (dlG M k) = true := val_sz (dl_val M k)
  unfold ovR ovE ovG
  show cond _ _ _ = _
  cases hv : valGB K
  · simp only [h1, Bool.not_false, Bool.and_self, cond_true, cond_false, Tr.val]
    rfl
  · cases he : chkE M k == (0 : Int)
    · have hb : (chkE M k != (0 : Int)) = true := by rw [bne, he]; rfl
      simp only [h1, h2, hb, Bool.not_true, Bool.and_self, cond_true, cond_false, Tr.val]
      rw [he]; rfl
    · have hb : (chkE M k != (0 : Int)) = false := by rw [bne, he]; rfl
      have e0 : chkE M k = 0 := beq_iff_eq.1 he
      simp only [h1, h2, h3, hb, e0, Bool.not_true, Bool.and_self, cond_true, cond_false, Tr.val]
      rfl
noncomputable def ovc_g : List AV → Option (Tr AV)
  | [.ag [.d _ _ (.prod (.int .i64) (.list (.prod (.int .i64) (.int .i64)))) R], .ag [.d _ _ (.prod (.int .i64) (.list (.prod (.int .i64) (.int .i64)))) B], .one (.v _ (.int .i64 k))] => some (.br (szG R && szG B) (.ret (.tup [(true, [.d false false (.prod (.int .i64) (.list (.prod (.int .i64) (.int .i64)))) (ovR R B k)]), (false, [.v false (.int .i64 (ovE R B k))])])) (.bad 900))
  | _ => none
set_option maxHeartbeats 4000000 in
theorem ovc_ok : FunOK Try.prog 29 ovc_g := by
  refine fun_ok (by kernel_rfl) (suB_S51_ok) (rgJ_L53_ok) 9 (On := (opens [])) (fun args t h => ?_)
  unfold ovc_g at h
  split at h
  · rename_i _ _ R _ _ B _ k
    simp only [Option.some.injEq] at h
    subst h
    refine ⟨[.ag [.d false false (.prod (.int .i64) (.list (.prod (.int .i64) (.int .i64)))) R], .ag [.d false false (.prod (.int .i64) (.list (.prod (.int .i64) (.int .i64)))) B], .one (.v false (.int .i64 k))], rfl, fun fr w us h => h, fun r hr => ?_⟩
    obtain ⟨hc, hr⟩ := br_bad hr
    simp only [Tr.val, Option.some.injEq] at hr
    subst hr
    rw [ovc_tree]
    exact ovc_val R B k hc
  · cases h
noncomputable def suB_S52 : Sums := addS 29 ovc_g suB_S51
theorem suB_S52_ok : SumOK Try.prog suB_S52 := addS_ok (ovc_ok) (suB_S51_ok)
noncomputable def suB_L53 : FuncId → Loops := rgJ_L53
set_option maxRecDepth 100000 in
set_option maxHeartbeats 4000000 in
theorem suB_L53_ok : LoopsOK Try.prog suB_L53 := rgJ_L53_ok
noncomputable def suB_L54 : FuncId → Loops := suB_L53
set_option maxRecDepth 100000 in
set_option maxHeartbeats 4000000 in
theorem suB_L54_ok : LoopsOK Try.prog suB_L54 := suB_L53_ok
noncomputable def suB_L55 : FuncId → Loops := suB_L54
set_option maxRecDepth 100000 in
set_option maxHeartbeats 4000000 in
theorem suB_L55_ok : LoopsOK Try.prog suB_L55 := suB_L54_ok
noncomputable def suB_S56 : Sums := suB_S52
theorem suB_S56_ok : SumOK Try.prog suB_S56 := suB_S52_ok
noncomputable def suB_S57 : Sums := suB_S56
theorem suB_S57_ok : SumOK Try.prog suB_S57 := suB_S56_ok
end Go.Proofs.Ytacgchandefjgaa
