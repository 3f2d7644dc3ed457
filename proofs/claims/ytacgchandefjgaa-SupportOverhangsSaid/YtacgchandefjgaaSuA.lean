/-
  Texts in one: Sup, SuA.
-/
import Derived.Test.YtacgchandefjgaaScn
import Derived.Test.YtacgchandefjgaaMor
import Derived.Test.YtacgchandefjgaaMoD
import Derived.Test.YtacgchandefjgaaProg
import Derived.Test.YtacgchandefjgaaFvX
import Derived.Test.YtacgchandefjgaaFvZ
import Derived.Test.YtacgchandefjgaaAut
import Derived.Test.YtacgchandefjgaaRd
import Derived.Test.YtacgchandefjgaaPl
import Derived.Test.YtacgchandefjgaaRgB
import Derived.Test.YtacgchandefjgaaRgC
import Derived.Test.YtacgchandefjgaaRgD
import Derived.Test.YtacgchandefjgaaMoB
import Derived.Test.YtacgchandefjgaaMoC
import Derived.Test.YtacgchandefjgaaRgG
namespace Go.Proofs.Ytacgchandefjgaa
open Go
theorem dl_val (R : Rg) (k : Int) : valG (dlG R k) := by
  unfold dlG
  cases rchB k && valGB R && fitB R k
  · exact valG_nil
  · exact sq_val _ _ _
noncomputable def ovG (R B : Rg) (k : Int) : Rg := opR 0 R (dlG B k)
theorem ov_val (R B : Rg) (k : Int) : valG (ovG R B k) := opR_val _ _ _
end Go.Proofs.Ytacgchandefjgaa

namespace Go.Proofs.Ytacgchandefjgaa
open Go
noncomputable def suA_S51 : Sums := rgG_S60
theorem suA_S51_ok : SumOK Try.prog suA_S51 := rgG_S60_ok
noncomputable def ovE (R B : Rg) (k : Int) : Int := bif valGB R then chkE B k else 1
noncomputable def ovR (R B : Rg) (k : Int) : Rg := bif ovE R B k == 0 then ovG R B k else []
theorem ovR_val (R B : Rg) (k : Int) : valG (ovR R B k) := by
  unfold ovR
  cases ovE R B k == 0
  · exact valG_nil
  · exact ov_val _ _ _
set_option maxRecDepth 100000 in
theorem ovc_tree (R : (Ty.list (.prod (.int .i64) (.list (.prod (.int .i64) (.int .i64))))).den) (B : (Ty.list (.prod (.int .i64) (.list (.prod (.int .i64) (.int .i64))))).den) (k : Int) : evalF Try.prog suA_S51 (opens []) rgG_L58 9 29 [.ag [.d false false (.prod (.int .i64) (.list (.prod (.int .i64) (.int .i64)))) R], .ag [.d false false (.prod (.int .i64) (.list (.prod (.int .i64) (.int .i64)))) B], .one (.v false (.int .i64 k))] = .br (((szG R) && (bif !valGB R then true else ((szG B) && (bif chkE B k != (0 : Int) then true else (szG R && szG (dlG B k))))))) (.ret (.tup [(true, [.d false false (.prod (.int .i64) (.list (.prod (.int .i64) (.int .i64)))) (bif !valGB R then [] else bif chkE B k != (0 : Int) then [] else opR (0 : Int) R (dlG B k))]), (false, [.v false (.int .i64 (bif !valGB R then (1 : Int) else bif chkE B k != (0 : Int) then chkE B k else (0 : Int)))])])) (.bad 116) := by kernel_rfl
theorem ovc_val (R : (Ty.list (.prod (.int .i64) (.list (.prod (.int .i64) (.int .i64))))).den) (B : (Ty.list (.prod (.int .i64) (.list (.prod (.int .i64) (.int .i64))))).den) (k : Int) (hc : (szG R && szG B) = true) : (.br (((szG R) && (bif !valGB R then true else ((szG B) && (bif chkE B k != (0 : Int) then true else (szG R && szG (dlG B k))))))) (.ret (.tup [(true, [.d false false (.prod (.int .i64) (.list (.prod (.int .i64) (.int .i64)))) (bif !valGB R then [] else bif chkE B k != (0 : Int) then [] else opR (0 : Int) R (dlG B k))]), (false, [.v false (.int .i64 (bif !valGB R then (1 : Int) else bif chkE B k != (0 : Int) then chkE B k else (0 : Int)))])])) (.bad 116) : Tr AV).val = some (.tup [(true, [.d false false (.prod (.int .i64) (.list (.prod (.int .i64) (.int .i64)))) (ovR R B k)]), (false, [.v false (.int .i64 (ovE R B k))])]) := by
  obtain ⟨K, rfl⟩ : ∃ K : Rg, K = R := ⟨R, rfl⟩
  obtain ⟨M, rfl⟩ : ∃ K : Rg, K = B := ⟨B, rfl⟩
  rw [Bool.and_eq_true] at hc
  have h1 : szG K = true := hc.1
  have h2 : szG M = true := hc.2
  have h3 : szG (dlG M k) = true := val_sz (dl_val M k)
  unfold ovR ovE ovG
  show cond _ _ _ = _
  cases hv : valGB K
  · simp only [h1, Bool.not_false, Bool.and_self, cond_true, cond_false, Tr.val]
    rfl
  · cases he : chkE M k == (0 : Int)
    · have hb : (chkE M k != (0 : Int)) = true := by rw [bne, he]; rfl
      simp only [h1, h2, hb, Bool.not_true, Bool.and_self, cond_true, cond_false, Tr.val]
      rw [he]; rfl
    · have hb : (chkE M k != (0 : Int)) = false := by rw [bne, he]; rfl
      have e0 : chkE M k = 0 := beq_iff_eq.1 he
      simp only [h1, h2, h3, hb, e0, Bool.not_true, Bool.and_self, cond_true, cond_false, Tr.val]
      rfl
noncomputable def ovc_g : List AV → Option (Tr AV)
  | [.ag [.d _ _ (.prod (.int .i64) (.list (.prod (.int .i64) (.int .i64)))) R], .ag [.d _ _ (.prod (.int .i64) (.list (.prod (.int .i64) (.int .i64)))) B], .one (.v _ (.int .i64 k))] => some (.br (szG R && szG B) (.ret (.tup [(true, [.d false false (.prod (.int .i64) (.list (.prod (.int .i64) (.int .i64)))) (ovR R B k)]), (false, [.v false (.int .i64 (ovE R B k))])])) (.bad 900))
  | _ => none
set_option maxHeartbeats 4000000 in
theorem ovc_ok : FunOK Try.prog 29 ovc_g := by
  refine fun_ok (by kernel_rfl) (suA_S51_ok) (rgG_L58_ok) 9 (On := (opens [])) (fun args t h => ?_)
  unfold ovc_g at h
  split at h
  · rename_i _ _ R _ _ B _ k
    simp only [Option.some.injEq] at h
    subst h
    refine ⟨[.ag [.d false false (.prod (.int .i64) (.list (.prod (.int .i64) (.int .i64)))) R], .ag [.d false false (.prod (.int .i64) (.list (.prod (.int .i64) (.int .i64)))) B], .one (.v false (.int .i64 k))], rfl, fun fr w us h => h, fun r hr => ?_⟩
    obtain ⟨hc, hr⟩ := br_bad hr
    simp only [Tr.val, Option.some.injEq] at hr
    subst hr
    rw [ovc_tree]
    exact ovc_val R B k hc
  · cases h
noncomputable def suA_S52 : Sums := addS 29 ovc_g suA_S51
theorem suA_S52_ok : SumOK Try.prog suA_S52 := addS_ok (ovc_ok) (suA_S51_ok)
noncomputable def suA_L53 : FuncId → Loops := rgG_L58
set_option maxRecDepth 100000 in
set_option maxHeartbeats 4000000 in
theorem suA_L53_ok : LoopsOK Try.prog suA_L53 := rgG_L58_ok
noncomputable def suA_L54 : FuncId → Loops := suA_L53
set_option maxRecDepth 100000 in
set_option maxHeartbeats 4000000 in
theorem suA_L54_ok : LoopsOK Try.prog suA_L54 := suA_L53_ok
noncomputable def suA_L55 : FuncId → Loops := suA_L54
set_option maxRecDepth 100000 in
set_option maxHeartbeats 4000000 in
theorem suA_L55_ok : LoopsOK Try.prog suA_L55 := suA_L54_ok
noncomputable def suA_S56 : Sums := suA_S52
theorem suA_S56_ok : SumOK Try.prog suA_S56 := suA_S52_ok
noncomputable def suA_S57 : Sums := suA_S56
theorem suA_S57_ok : SumOK Try.prog suA_S57 := suA_S56_ok
end Go.Proofs.Ytacgchandefjgaa
