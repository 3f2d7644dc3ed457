/-
  Layer 31: SupportOverhangs.
-/
import Derived.Test.YtacgchandefjgaaProg
import Derived.Test.YtacgchandefjgaaFvX
import Derived.Test.YtacgchandefjgaaFvZ
import Derived.Test.YtacgchandefjgaaAut
import Derived.Test.YtacgchandefjgaaRd
import Derived.Test.YtacgchandefjgaaPl
import Derived.Test.YtacgchandefjgaaScn
import Derived.Test.YtacgchandefjgaaMor
import Derived.Test.YtacgchandefjgaaRgB
import Derived.Test.YtacgchandefjgaaRgC
import Derived.Test.YtacgchandefjgaaRgD
import Derived.Test.YtacgchandefjgaaMoB
import Derived.Test.YtacgchandefjgaaMoC
import Derived.Test.YtacgchandefjgaaMoD
import Derived.Test.YtacgchandefjgaaRfA
import Derived.Test.YtacgchandefjgaaRgG
import Derived.Test.YtacgchandefjgaaSuA
import Derived.Test.YtacgchandefjgaaSuW
namespace Go.Proofs.Ytacgchandefjgaa
open Go
noncomputable def suO_S51 : Sums := addS 28 gTrue suA_S57
theorem suO_S51_ok : SumOK Try.prog suO_S51 := addS_ok (gTrue_ok (by kernel_rfl) (suW_S69_ok) (L0_ok _) aw28_tree) (suA_S57_ok)
theorem inr_sz {R : Rg} (r : Ty.InR (.list (.prod (.int .i64) (.list (.prod (.int .i64) (.int .i64))))) R) : szG R = true := by
  unfold szG
  have h1 : R.length ≤ maxLen := r.1
  have h2 : ∀ x ∈ R, x.2.length ≤ maxLen := fun x hx => (r.2 x hx).2.1
  unfold maxLen at h1 h2
  rw [Bool.and_eq_true, decide_eq_true_eq, List.all_eq_true]
  exact ⟨by omega, fun x hx => decide_eq_true (by have := h2 x hx; omega)⟩
theorem sm_cnt {R : Rg} (h : smG R = true) : cntV R ≤ 600 := by
  unfold smG at h
  rw [Bool.and_eq_true, Bool.and_eq_true] at h
  exact of_decide_eq_true h.2.2
theorem eqRg_self (A : Rg) : eqRg A A = true := decide_eq_true rfl
set_option maxRecDepth 100000 in
theorem law_SupportOverhangs_tree (R : (Ty.list (.prod (.int .i64) (.list (.prod (.int .i64) (.int .i64))))).den) (B : (Ty.list (.prod (.int .i64) (.list (.prod (.int .i64) (.int .i64))))).den) (k : Int) : evalF Try.prog suO_S51 (opens []) suA_L55 9 6 [.ag [.d false false (.prod (.int .i64) (.list (.prod (.int .i64) (.int .i64)))) R], .ag [.d false false (.prod (.int .i64) (.list (.prod (.int .i64) (.int .i64)))) B], .one (.v false (.int .i64 k))] = .br ((bif !smG R then true else (bif !smG B then true else ((szG R && szG B) && ((((szG R) && (bif !valGB R then true else ((szG B && decide (cntV B ≤ (9000 : Int))) && (bif chkE B k != (0 : Int) then true else (szG R && szG (dlG B k))))))) && (szG (ovR R B k))))))) (.ret (.one (.v false (.bool (bif !smG R then true else bif !smG B then true else bif bif eqRg (ovR R B k) (bif !valGB R then [] else bif chkE B k != (0 : Int) then [] else opR (0 : Int) R (dlG B k)) then ovE R B k == bif !valGB R then (1 : Int) else bif chkE B k != (0 : Int) then chkE B k else (0 : Int) else false then true else false))))) (.bad 116) := by kernel_rfl
set_option maxHeartbeats 4000000 in
theorem law_SupportOverhangs_all (R : (Ty.list (.prod (.int .i64) (.list (.prod (.int .i64) (.int .i64))))).den) (B : (Ty.list (.prod (.int .i64) (.list (.prod (.int .i64) (.int .i64))))).den) (k : Int) (r0 : Ty.InR (.list (.prod (.int .i64) (.list (.prod (.int .i64) (.int .i64))))) R) (r1 : Ty.InR (.list (.prod (.int .i64) (.list (.prod (.int .i64) (.int .i64))))) B) (l2 : -9223372036854775808 ≤ k) (g2 : k ≤ 9223372036854775807) : Tr.all (fun r => ∃ kn, r = AV.one (.v kn (.bool true))) (.br ((bif !smG R then true else (bif !smG B then true else ((szG R && szG B) && ((((szG R) && (bif !valGB R then true else ((szG B && decide (cntV B ≤ (9000 : Int))) && (bif chkE B k != (0 : Int) then true else (szG R && szG (dlG B k))))))) && (szG (ovR R B k))))))) (.ret (.one (.v false (.bool (bif !smG R then true else bif !smG B then true else bif bif eqRg (ovR R B k) (bif !valGB R then [] else bif chkE B k != (0 : Int) then [] else opR (0 : Int) R (dlG B k)) then ovE R B k == bif !valGB R then (1 : Int) else bif chkE B k != (0 : Int) then chkE B k else (0 : Int) else false then true else false))))) (.bad 116)) := by
  obtain ⟨K, rfl⟩ : ∃ K : Rg, K = R := ⟨R, rfl⟩
  obtain ⟨M, rfl⟩ : ∃ K : Rg, K = B := ⟨B, rfl⟩
  have sK : szG K = true := inr_sz r0
  have sM : szG M = true := inr_sz r1
  cases hA : smG K
  · simp only [Bool.not_false, cond_true]
    exact ⟨fun _ => ⟨_, rfl⟩, fun h => by cases h⟩
  cases hB : smG M
  · simp only [Bool.not_true, Bool.not_false, cond_true, cond_false]
    exact ⟨fun _ => ⟨_, rfl⟩, fun h => by cases h⟩
  have hn := sm_cnt hB
  have dn : decide (cntV M ≤ 9000) = true := decide_eq_true (by omega)
  have s1 : szG (dlG M k) = true := val_sz (dl_val M k)
  have s2 : szG (ovR K M k) = true := val_sz (ovR_val K M k)
  cases hv : valGB K
  · have e1 : ovR K M k = [] := by unfold ovR ovE; rw [hv]; rfl
    have e2 : ovE K M k = 1 := by unfold ovE; rw [hv]; rfl
    have e3 := eqRg_self []
    rw [e1] at s2
    simp only [sK, sM, e1, e2, e3, s2, beq_self_eq_true, Bool.not_true, Bool.not_false, Bool.and_self, cond_true, cond_false]
    exact ⟨fun _ => ⟨_, rfl⟩, fun h => by cases h⟩
  have e2 : ovE K M k = chkE M k := by unfold ovE; rw [hv]; rfl
  cases hc : chkE M k != (0 : Int)
  · have e0 : chkE M k = 0 := by simpa using hc
    have e1 : ovR K M k = opR 0 K (dlG M k) := by unfold ovR; rw [e2, e0]; rfl
    have e3 := eqRg_self (opR 0 K (dlG M k))
    rw [e1] at s2
    simp only [sK, sM, dn, s1, s2, e0, e1, e2, e3, bne_self_eq_false, beq_self_eq_true, Bool.not_true, Bool.and_self, cond_true, cond_false]
    exact ⟨fun _ => ⟨_, rfl⟩, fun h => by cases h⟩
  · have e1 : ovR K M k = [] := by
      unfold ovR
      have : (chkE M k == (0 : Int)) = false := by simpa using hc
      rw [e2, this]; rfl
    have e3 := eqRg_self []
    rw [e1] at s2
    simp only [sK, sM, dn, s2, hc, e1, e2, e3, beq_self_eq_true, Bool.not_true, Bool.and_self, cond_true, cond_false]
    exact ⟨fun _ => ⟨_, rfl⟩, fun h => by cases h⟩
set_option maxHeartbeats 4000000 in
theorem law_SupportOverhangs (v0 : Value) (x0 : ((.list (.prod (.int .i64) (.list (.prod (.int .i64) (.int .i64))))) : Ty).den) (r0 : Ty.InR (.list (.prod (.int .i64) (.list (.prod (.int .i64) (.int .i64))))) x0) (v1 : Value) (x1 : ((.list (.prod (.int .i64) (.list (.prod (.int .i64) (.int .i64))))) : Ty).den) (r1 : Ty.InR (.list (.prod (.int .i64) (.list (.prod (.int .i64) (.int .i64))))) x1) (k : Int) (l2 : -9223372036854775808 ≤ k) (g2 : k ≤ 9223372036854775807) (z_w : World) (i0 : (AV.ag (Ty.cells false (.list (.prod (.int .i64) (.list (.prod (.int .i64) (.int .i64))))) x0)).is [] (fun _ => none) (fun b => b < z_w.heap.size) z_w v0) (i1 : (AV.ag (Ty.cells false (.list (.prod (.int .i64) (.list (.prod (.int .i64) (.int .i64))))) x1)).is [] (fun _ => none) (fun b => b < z_w.heap.size) z_w v1) : Calls Try.prog 6 #[v0, v1, .int .i64 k] z_w fun e w' => e = .returned (.bool true) ∧ Ext z_w w' := by
  obtain ⟨R, rfl⟩ : ∃ y, y = x0 := ⟨_, rfl⟩
  obtain ⟨B, rfl⟩ : ∃ y, y = x1 := ⟨_, rfl⟩
  refine law_of_tree (by kernel_rfl) (suO_S51_ok) (suA_L55_ok) (law_SupportOverhangs_tree R B k) (law_SupportOverhangs_all R B k r0 r1 l2 g2) rfl z_w _ _ (fun _ h => h) ⟨_, _, rfl, i0, ⟨_, _, rfl, i1, ⟨_, _, rfl, rfl, rfl⟩⟩⟩
end Go.Proofs.Ytacgchandefjgaa
