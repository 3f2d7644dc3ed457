/-
  Layer 44: Feasible, Plan: the laws.
-/
import Derived.Test.YtaidlflnkdamkaaProg
import Derived.Test.YtaidlflnkdamkaaFvX
import Derived.Test.YtaidlflnkdamkaaFvZ
import Derived.Test.YtaidlflnkdamkaaAut
import Derived.Test.YtaidlflnkdamkaaRd
import Derived.Test.YtaidlflnkdamkaaAbA
import Derived.Test.YtaidlflnkdamkaaAbB
import Derived.Test.YtaidlflnkdamkaaAbM
import Derived.Test.YtaidlflnkdamkaaAbN
import Derived.Test.YtaidlflnkdamkaaAbC
import Derived.Test.YtaidlflnkdamkaaAbD
import Derived.Test.YtaidlflnkdamkaaAbE
import Derived.Test.YtaidlflnkdamkaaAbP
import Derived.Test.YtaidlflnkdamkaaAbF
import Derived.Test.YtaidlflnkdamkaaAbG
import Derived.Test.YtaidlflnkdamkaaAbH
import Derived.Test.YtaidlflnkdamkaaAbI
import Derived.Test.YtaidlflnkdamkaaAbK
import Derived.Test.YtaidlflnkdamkaaAbL
import Derived.Test.YtaidlflnkdamkaaAbQ
import Derived.Test.YtaidlflnkdamkaaAbR
import Derived.Test.YtaidlflnkdamkaaAbS
import Derived.Test.YtaidlflnkdamkaaAbJ
namespace Go.Proofs.Ytaidlflnkdamkaa
open Go
set_option maxRecDepth 100000 in
theorem rfec_tree (L : (Ty.list (.prod (.prod (.int .i64) (.prod (.int .i64) (.prod (.int .i64) (.int .i64)))) (.prod (.int .i64) (.prod (.int .i64) (.prod (.int .i64) (.int .i64)))))).den) (C : (Ty.list (.int .i64)).den) (e : Int) : evalF Try.prog abR_S62 (opens []) abR_L65 9 17 [.one (.d false false (.prod (.prod (.int .i64) (.prod (.int .i64) (.prod (.int .i64) (.int .i64)))) (.prod (.int .i64) (.prod (.int .i64) (.prod (.int .i64) (.int .i64))))) L), .one (.d false false (.int .i64) C), .one (.v false (.int .i64 e))] = .br ((bif (↑(List.length C) : Int) != (↑(List.length L) : Int) then true else (bif (↑(List.length L) : Int) == (0 : Int) then true else ((decide ((0 : Int) ≤ (0 : Int)) && decide ((0 : Int) < (↑(List.length L) : Int))) && ((rfe_cond (L, C, e, L, (↑(List.length L) : Int)) (false, (0 : Int), [Prod.fst (Prod.snd (Prod.snd (el_iiiiiiii L (0 : Int))))])) && (bif Nat.beq (Prod.fst (rfe_g (L, C, e, L, (↑(List.length L) : Int)) (false, (0 : Int), [Prod.fst (Prod.snd (Prod.snd (el_iiiiiiii L (0 : Int))))]))) (0 : Nat) then true else ((Nat.beq (Prod.fst (rfe_g (L, C, e, L, (↑(List.length L) : Int)) (false, (0 : Int), [Prod.fst (Prod.snd (Prod.snd (el_iiiiiiii L (0 : Int))))]))) (1 : Nat)) && (choK L C (Prod.snd (Prod.snd (Prod.snd (rfe_g (L, C, e, L, (↑(List.length L) : Int)) (false, (0 : Int), [Prod.fst (Prod.snd (Prod.snd (el_iiiiiiii L (0 : Int))))]))))))))))))) (.ret (.one (.v false (.bool (bif (↑(List.length C) : Int) != (↑(List.length L) : Int) then false else bif (↑(List.length L) : Int) == (0 : Int) then true else bif Nat.beq (Prod.fst (rfe_g (L, C, e, L, (↑(List.length L) : Int)) (false, (0 : Int), [Prod.fst (Prod.snd (Prod.snd (el_iiiiiiii L (0 : Int))))]))) (0 : Nat) then Prod.fst (Prod.snd (rfe_g (L, C, e, L, (↑(List.length L) : Int)) (false, (0 : Int), [Prod.fst (Prod.snd (Prod.snd (el_iiiiiiii L (0 : Int))))]))) else choB L C e (Prod.snd (Prod.snd (Prod.snd (rfe_g (L, C, e, L, (↑(List.length L) : Int)) (false, (0 : Int), [Prod.fst (Prod.snd (Prod.snd (el_iiiiiiii L (0 : Int))))])))))))))) (.bad 116) := by kernel_rfl
theorem rfec_val (L : (Ty.list (.prod (.prod (.int .i64) (.prod (.int .i64) (.prod (.int .i64) (.int .i64)))) (.prod (.int .i64) (.prod (.int .i64) (.prod (.int .i64) (.int .i64)))))).den) (C : (Ty.list (.int .i64)).den) (e : Int) (hc : (decide (L.length ≤ 40)) = true) : (.br ((bif (↑(List.length C) : Int) != (↑(List.length L) : Int) then true else (bif (↑(List.length L) : Int) == (0 : Int) then true else ((decide ((0 : Int) ≤ (0 : Int)) && decide ((0 : Int) < (↑(List.length L) : Int))) && ((rfe_cond (L, C, e, L, (↑(List.length L) : Int)) (false, (0 : Int), [Prod.fst (Prod.snd (Prod.snd (el_iiiiiiii L (0 : Int))))])) && (bif Nat.beq (Prod.fst (rfe_g (L, C, e, L, (↑(List.length L) : Int)) (false, (0 : Int), [Prod.fst (Prod.snd (Prod.snd (el_iiiiiiii L (0 : Int))))]))) (0 : Nat) then true else ((Nat.beq (Prod.fst (rfe_g (L, C, e, L, (↑(List.length L) : Int)) (false, (0 : Int), [Prod.fst (Prod.snd (Prod.snd (el_iiiiiiii L (0 : Int))))]))) (1 : Nat)) && (choK L C (Prod.snd (Prod.snd (Prod.snd (rfe_g (L, C, e, L, (↑(List.length L) : Int)) (false, (0 : Int), [Prod.fst (Prod.snd (Prod.snd (el_iiiiiiii L (0 : Int))))]))))))))))))) (.ret (.one (.v false (.bool (bif (↑(List.length C) : Int) != (↑(List.length L) : Int) then false else bif (↑(List.length L) : Int) == (0 : Int) then true else bif Nat.beq (Prod.fst (rfe_g (L, C, e, L, (↑(List.length L) : Int)) (false, (0 : Int), [Prod.fst (Prod.snd (Prod.snd (el_iiiiiiii L (0 : Int))))]))) (0 : Nat) then Prod.fst (Prod.snd (rfe_g (L, C, e, L, (↑(List.length L) : Int)) (false, (0 : Int), [Prod.fst (Prod.snd (Prod.snd (el_iiiiiiii L (0 : Int))))]))) else choB L C e (Prod.snd (Prod.snd (Prod.snd (rfe_g (L, C, e, L, (↑(List.length L) : Int)) (false, (0 : Int), [Prod.fst (Prod.snd (Prod.snd (el_iiiiiiii L (0 : Int))))])))))))))) (.bad 116) : Tr AV).val = some (.one (.v false (.bool (feaB L C e)))) := by
  have h40 := of_decide_eq_true hc
  cases hl : ((C.length : Int) != (L.length : Int))
  rotate_left
  · have : feaB L C e = false := by unfold feaB; rw [hl]; rfl
    simp only [this, Tr.val, cond_true]
  have hC : C.length = L.length := by simp at hl; omega
  cases hn : ((L.length : Int) == 0)
  rotate_left
  · have hn' : L.length = 0 := by simp at hn; simp [hn]
    have : feaB L C e = true := feaB_iff.2 ⟨hC, fun i hi => by omega, .inl hn'⟩
    simp only [this, Tr.val, cond_true, cond_false]
  have hn : L.length ≠ 0 := by simp at hn; simp [hn]
  have c1 : (decide ((0 : Int) ≤ (0 : Int)) && decide ((0 : Int) < (L.length : Int))) = true := by simp only [Bool.and_eq_true, decide_eq_true_eq]; omega
  have f1 : Prod.fst (Prod.snd (Prod.snd (el_iiiiiiii L (0 : Int)))) = enB (bL L 0) := rfl
  obtain ⟨r1, k, x, y, r2, hq⟩ := rfe_run (C := C) (e := e) (show 1 ≤ L.length by omega) h40
  simp only [c1, f1, r1, r2, Tr.val, cond_false, Bool.true_and]
  rcases hq with ⟨rfl, j, hj, hp⟩ | ⟨rfl, rfl, hp⟩
  · have hF : feaB L C e = false := by
      rw [← Bool.not_eq_true]; intro hf
      obtain ⟨_, hv, h | ⟨hV, _⟩⟩ := feaB_iff.1 hf
      · exact hn h
      · unfold rfV at hp
        rw [hv j hj] at hp
        simp only [Bool.not_true, cond_false] at hp
        by_cases h0 : 0 < j
        · rw [decide_eq_true h0] at hp
          have := ((feaV_false.1 (hV j hj)).2 h0).1
          rw [bne_f this] at hp
          cases hp
        · rw [decide_eq_false h0] at hp; cases hp
    rw [hF]; rfl
  · have hv : ∀ i, i < L.length → valB (bL L i) = true := fun i hi => by
      have := hp i hi
      unfold rfV at this
      cases hb : valB (bL L i)
      · rw [hb] at this; cases this
      · rfl
    have hm : ∀ i, 0 < i → i < L.length → enB (bL L i) = exB (bL L (i - 1)) := fun i h0 hi => by
      have := hp i hi
      unfold rfV at this
      rw [hv i hi, decide_eq_true h0] at this
      simpa using this
    have hk : choK L C (tab (L.length + 1) (tq L)) = true := by
      unfold choK
      simp only [Bool.and_eq_true, decide_eq_true_eq, tab_length]
      exact ⟨by omega, h40, hC, trivial⟩
    rw [fea_cho (by omega) hC hv hm, hk]
    rfl
noncomputable def rfec_g : List AV → Option (Tr AV)
  | [.one (.d _ _ (.prod (.prod (.int .i64) (.prod (.int .i64) (.prod (.int .i64) (.int .i64)))) (.prod (.int .i64) (.prod (.int .i64) (.prod (.int .i64) (.int .i64))))) L), .one (.d _ _ (.int .i64) C), .one (.v _ (.int .i64 e))] => some (.br (decide (L.length ≤ 40)) (.ret (.one (.v false (.bool (feaB L C e))))) (.bad 900))
  | _ => none
set_option maxHeartbeats 4000000 in
theorem rfec_ok : FunOK Try.prog 17 rfec_g := by
  refine fun_ok (by kernel_rfl) (abR_S62_ok) (abR_L65_ok) 9 (On := (opens [])) (fun args t h => ?_)
  unfold rfec_g at h
  split at h
  · rename_i _ _ L _ _ C _ e
    simp only [Option.some.injEq] at h
    subst h
    refine ⟨[.one (.d false false (.prod (.prod (.int .i64) (.prod (.int .i64) (.prod (.int .i64) (.int .i64)))) (.prod (.int .i64) (.prod (.int .i64) (.prod (.int .i64) (.int .i64))))) L), .one (.d false false (.int .i64) C), .one (.v false (.int .i64 e))], rfl, fun fr w us h => h, fun r hr => ?_⟩
    obtain ⟨hc, hr⟩ := br_bad hr
    simp only [Tr.val, Option.some.injEq] at hr
    subst hr
    rw [rfec_tree]
    exact rfec_val L C e hc
  · cases h
noncomputable def abT_S61 : Sums := addS 17 rfec_g abR_S62
theorem abT_S61_ok : SumOK Try.prog abT_S61 := addS_ok (rfec_ok) (abR_S62_ok)
set_option maxRecDepth 100000 in
theorem rplc_tree (L : (Ty.list (.prod (.prod (.int .i64) (.prod (.int .i64) (.prod (.int .i64) (.int .i64)))) (.prod (.int .i64) (.prod (.int .i64) (.prod (.int .i64) (.int .i64)))))).den) (C : (Ty.list (.int .i64)).den) (e : Int) : evalF Try.prog abT_S61 (opens []) abR_L65 9 19 [.one (.d false false (.prod (.prod (.int .i64) (.prod (.int .i64) (.prod (.int .i64) (.int .i64)))) (.prod (.int .i64) (.prod (.int .i64) (.prod (.int .i64) (.int .i64))))) L), .one (.d false false (.int .i64) C), .one (.v false (.int .i64 e))] = .br (((rpl0_cond (L, C, e, L, (↑(List.length L) : Int)) ((0 : Int), (0 : Int))) && (bif Nat.beq (Prod.fst (rpl0_g (L, C, e, L, (↑(List.length L) : Int)) ((0 : Int), (0 : Int)))) (0 : Nat) then true else ((Nat.beq (Prod.fst (rpl0_g (L, C, e, L, (↑(List.length L) : Int)) ((0 : Int), (0 : Int)))) (1 : Nat)) && (((bif (↑(List.length C) : Int) != (↑(List.length L) : Int) then true else (bif decide ((↑(List.length L) : Int) > (0 : Int)) then (bif decide (e < (0 : Int)) then true else (decide ((0 : Int) ≤ (0 : Int)) && decide ((0 : Int) < (↑(List.length L) : Int)))) else true))) && (bif bif (↑(List.length C) : Int) != (↑(List.length L) : Int) then true else bif decide ((↑(List.length L) : Int) > (0 : Int)) then bif decide (e < (0 : Int)) then true else decide (e > Prod.fst (Prod.snd (Prod.snd (Prod.snd (el_iiiiiiii L (0 : Int)))))) else false then true else (bif (↑(List.length L) : Int) == (0 : Int) then true else ((chOk L C e) && ((choK L C (grt L C e)) && (bif !choB L C e (grt L C e) then true else ((decide (((0 : Nat) + List.length L) * (64 : Nat) ≤ maxNew) && decide ((0 : Nat) + List.length L ≤ maxLen)) && ((rpl1_cond (Prod.fst (Prod.snd (rpl0_g (L, C, e, L, (↑(List.length L) : Int)) ((0 : Int), (0 : Int)))), grt L C e, (↑(List.length L) : Int)) ((0 : Int), L)) && (Nat.beq (Prod.fst (rpl1_g (Prod.fst (Prod.snd (rpl0_g (L, C, e, L, (↑(List.length L) : Int)) ((0 : Int), (0 : Int)))), grt L C e, (↑(List.length L) : Int)) ((0 : Int), L))) (0 : Nat)))))))))))))) (.ret (.tup [(false, [.d false false (.prod (.prod (.int .i64) (.prod (.int .i64) (.prod (.int .i64) (.int .i64)))) (.prod (.int .i64) (.prod (.int .i64) (.prod (.int .i64) (.int .i64))))) (bif Nat.beq (Prod.fst (rpl0_g (L, C, e, L, (↑(List.length L) : Int)) ((0 : Int), (0 : Int)))) (0 : Nat) then [] else bif bif (↑(List.length C) : Int) != (↑(List.length L) : Int) then true else bif decide ((↑(List.length L) : Int) > (0 : Int)) then bif decide (e < (0 : Int)) then true else decide (e > Prod.fst (Prod.snd (Prod.snd (Prod.snd (el_iiiiiiii L (0 : Int)))))) else false then [] else bif (↑(List.length L) : Int) == (0 : Int) then [] else bif !choB L C e (grt L C e) then [] else Prod.snd (Prod.snd (rpl1_g (Prod.fst (Prod.snd (rpl0_g (L, C, e, L, (↑(List.length L) : Int)) ((0 : Int), (0 : Int)))), grt L C e, (↑(List.length L) : Int)) ((0 : Int), L))))]), (false, [.v false (.int .i64 (bif Nat.beq (Prod.fst (rpl0_g (L, C, e, L, (↑(List.length L) : Int)) ((0 : Int), (0 : Int)))) (0 : Nat) then Prod.fst (Prod.snd (rpl0_g (L, C, e, L, (↑(List.length L) : Int)) ((0 : Int), (0 : Int)))) else bif bif (↑(List.length C) : Int) != (↑(List.length L) : Int) then true else bif decide ((↑(List.length L) : Int) > (0 : Int)) then bif decide (e < (0 : Int)) then true else decide (e > Prod.fst (Prod.snd (Prod.snd (Prod.snd (el_iiiiiiii L (0 : Int)))))) else false then (1 : Int) else bif (↑(List.length L) : Int) == (0 : Int) then (0 : Int) else bif !choB L C e (grt L C e) then (8 : Int) else (0 : Int)))])])) (.bad 116) := by kernel_rfl
theorem rplc_val (L : (Ty.list (.prod (.prod (.int .i64) (.prod (.int .i64) (.prod (.int .i64) (.int .i64)))) (.prod (.int .i64) (.prod (.int .i64) (.prod (.int .i64) (.int .i64)))))).den) (C : (Ty.list (.int .i64)).den) (e : Int) (hc : (decide (L.length ≤ 40) && capB C) = true) : (.br (((rpl0_cond (L, C, e, L, (↑(List.length L) : Int)) ((0 : Int), (0 : Int))) && (bif Nat.beq (Prod.fst (rpl0_g (L, C, e, L, (↑(List.length L) : Int)) ((0 : Int), (0 : Int)))) (0 : Nat) then true else ((Nat.beq (Prod.fst (rpl0_g (L, C, e, L, (↑(List.length L) : Int)) ((0 : Int), (0 : Int)))) (1 : Nat)) && (((bif (↑(List.length C) : Int) != (↑(List.length L) : Int) then true else (bif decide ((↑(List.length L) : Int) > (0 : Int)) then (bif decide (e < (0 : Int)) then true else (decide ((0 : Int) ≤ (0 : Int)) && decide ((0 : Int) < (↑(List.length L) : Int)))) else true))) && (bif bif (↑(List.length C) : Int) != (↑(List.length L) : Int) then true else bif decide ((↑(List.length L) : Int) > (0 : Int)) then bif decide (e < (0 : Int)) then true else decide (e > Prod.fst (Prod.snd (Prod.snd (Prod.snd (el_iiiiiiii L (0 : Int)))))) else false then true else (bif (↑(List.length L) : Int) == (0 : Int) then true else ((chOk L C e) && ((choK L C (grt L C e)) && (bif !choB L C e (grt L C e) then true else ((decide (((0 : Nat) + List.length L) * (64 : Nat) ≤ maxNew) && decide ((0 : Nat) + List.length L ≤ maxLen)) && ((rpl1_cond (Prod.fst (Prod.snd (rpl0_g (L, C, e, L, (↑(List.length L) : Int)) ((0 : Int), (0 : Int)))), grt L C e, (↑(List.length L) : Int)) ((0 : Int), L)) && (Nat.beq (Prod.fst (rpl1_g (Prod.fst (Prod.snd (rpl0_g (L, C, e, L, (↑(List.length L) : Int)) ((0 : Int), (0 : Int)))), grt L C e, (↑(List.length L) : Int)) ((0 : Int), L))) (0 : Nat)))))))))))))) (.ret (.tup [(false, [.d false false (.prod (.prod (.int .i64) (.prod (.int .i64) (.prod (.int .i64) (.int .i64)))) (.prod (.int .i64) (.prod (.int .i64) (.prod (.int .i64) (.int .i64))))) (bif Nat.beq (Prod.fst (rpl0_g (L, C, e, L, (↑(List.length L) : Int)) ((0 : Int), (0 : Int)))) (0 : Nat) then [] else bif bif (↑(List.length C) : Int) != (↑(List.length L) : Int) then true else bif decide ((↑(List.length L) : Int) > (0 : Int)) then bif decide (e < (0 : Int)) then true else decide (e > Prod.fst (Prod.snd (Prod.snd (Prod.snd (el_iiiiiiii L (0 : Int)))))) else false then [] else bif (↑(List.length L) : Int) == (0 : Int) then [] else bif !choB L C e (grt L C e) then [] else Prod.snd (Prod.snd (rpl1_g (Prod.fst (Prod.snd (rpl0_g (L, C, e, L, (↑(List.length L) : Int)) ((0 : Int), (0 : Int)))), grt L C e, (↑(List.length L) : Int)) ((0 : Int), L))))]), (false, [.v false (.int .i64 (bif Nat.beq (Prod.fst (rpl0_g (L, C, e, L, (↑(List.length L) : Int)) ((0 : Int), (0 : Int)))) (0 : Nat) then Prod.fst (Prod.snd (rpl0_g (L, C, e, L, (↑(List.length L) : Int)) ((0 : Int), (0 : Int)))) else bif bif (↑(List.length C) : Int) != (↑(List.length L) : Int) then true else bif decide ((↑(List.length L) : Int) > (0 : Int)) then bif decide (e < (0 : Int)) then true else decide (e > Prod.fst (Prod.snd (Prod.snd (Prod.snd (el_iiiiiiii L (0 : Int)))))) else false then (1 : Int) else bif (↑(List.length L) : Int) == (0 : Int) then (0 : Int) else bif !choB L C e (grt L C e) then (8 : Int) else (0 : Int)))])])) (.bad 116) : Tr AV).val = some (.tup [(false, [.d false false (.prod (.prod (.int .i64) (.prod (.int .i64) (.prod (.int .i64) (.int .i64)))) (.prod (.int .i64) (.prod (.int .i64) (.prod (.int .i64) (.int .i64))))) (planL L C e)]), (false, [.v false (.int .i64 (planC L C e))])]) := by
  simp only [Bool.and_eq_true, decide_eq_true_eq] at hc
  obtain ⟨h40, hcap⟩ := hc
  have hcap : capOk C := @of_decide_eq_true _ (Classical.propDecidable _) hcap
  obtain ⟨r1, k, x, y, r2, hq⟩ := rpl0_run (C := C) (e := e) h40
  simp only [r1, r2, Tr.val, Bool.true_and]
  have z0 : Nat.beq 0 0 = true := rfl
  have z1 : Nat.beq 1 0 = false := rfl
  have z2 : Nat.beq 1 1 = true := rfl
  rcases hq with ⟨rfl, rfl, j, hj, hp⟩ | ⟨rfl, rfl, hsn⟩
  · have h1 : planC L C e = 1 := planC_R1 (.inr (.inl ⟨j, hj, hp⟩))
    have h2 : planL L C e = [] := by
      rcases plan_cases (e := e) h40 hcap with ⟨_, h, _⟩ | ⟨h, _⟩ | ⟨h, _⟩
      · exact h
      · rw [h1] at h; cases h
      · rw [h1] at h; cases h
    simp only [h1, h2, z0, cond_true]
  simp only [z1, z2, cond_false, Bool.true_and]
  cases hl : ((C.length : Int) != (L.length : Int))
  rotate_left
  · have h1 : planC L C e = 1 := by unfold planC; rw [hl]; rfl
    have h2 : planL L C e = [] := by unfold planL; rw [hl]; rfl
    simp only [h1, h2, cond_true, Bool.true_and]
  have hC : C.length = L.length := by simp at hl; omega
  have hany : L.any (fun b => !sndB b) = false := by
    rw [← Bool.not_eq_true, List.any_eq_true]
    rintro ⟨b, hb, hnb⟩
    obtain ⟨i, hi, rfl⟩ := List.getElem_of_mem hb
    have e1 : bL L i = L[i] := by
      show L.getD i ((0, 0, 0, 0), 0, 0, 0, 0) = L[i]
      rw [List.getD, List.getElem?_eq_getElem hi]; rfl
    have := hsn i hi
    rw [e1] at this; rw [this] at hnb; cases hnb
  by_cases hn : L.length = 0
  · have h1 : planC L C e = 0 := by unfold planC; rw [hl, hany, hn]; rfl
    have h2 : planL L C e = [] := by unfold planL; rw [hl, hany, hn]; rfl
    have d1 : decide ((L.length : Int) > 0) = false := decide_eq_false (by omega)
    have d2 : ((L.length : Int) == 0) = true := by rw [hn]; rfl
    simp only [h1, h2, d1, d2, cond_true, cond_false, Bool.true_and]
  have d1 : decide ((L.length : Int) > 0) = true := decide_eq_true (by omega)
  have d2 : ((L.length : Int) == 0) = false := beq_f (by omega)
  have c1 : (decide ((0 : Int) ≤ (0 : Int)) && decide ((0 : Int) < (L.length : Int))) = true := by simp only [Bool.and_eq_true, decide_eq_true_eq]; omega
  have f1 : Prod.fst (Prod.snd (Prod.snd (Prod.snd (el_iiiiiiii L (0 : Int))))) = crB (bL L 0) := rfl
  have hx : (bif decide (e < 0) then true else decide ((0 : Int) ≤ 0) && true) = true := by cases decide (e < 0) <;> rfl
  simp only [d1, d2, c1, f1, cond_true, cond_false, Bool.cond_true_right, Bool.or_true, Bool.true_and]
  by_cases he : e < 0 ∨ e > crB (bL L 0)
  · have h1 : planC L C e = 1 := planC_R1 (.inr (.inr ⟨hn, he⟩))
    have h2 : planL L C e = [] := by
      rcases plan_cases (e := e) h40 hcap with ⟨_, h, _⟩ | ⟨h, _⟩ | ⟨h, _⟩
      · exact h
      · rw [h1] at h; cases h
      · rw [h1] at h; cases h
    have h3 : (bif decide (e < 0) then true else decide (e > crB (bL L 0))) = true := by
      rcases he with he | he
      · rw [decide_eq_true he]; rfl
      · rw [decide_eq_true he]; cases decide (e < 0) <;> rfl
    simp only [h1, h2, h3, hx, cond_true, Bool.and_self]
  have h3 : (bif decide (e < 0) then true else decide (e > crB (bL L 0))) = false := by
    rw [decide_eq_false (show ¬ e < 0 by omega), cond_false]; exact decide_eq_false (by omega)
  have ok : ChOk L C e := ⟨by omega, h40, hC, hsn, fun i hi => hcap i (by omega), by omega, by omega⟩
  have okb : chOk L C e = true := @decide_eq_true _ (Classical.propDecidable _) ok
  have hkk : ∀ f, choK L C (tab (L.length + 1) f) = true := fun f => by
    unfold choK
    simp only [Bool.and_eq_true, decide_eq_true_eq, tab_length]
    exact ⟨by omega, h40, hC, trivial⟩
  obtain ⟨G, hG, _⟩ := grt_tab ok
  have hkg : choK L C (grt L C e) = true := by rw [hG]; exact hkk G
  simp only [h3, okb, hkg, cond_false, Bool.true_and]
  by_cases hbad : sq44 L C e 0 < e ∨ ∃ i, i ≤ L.length ∧ sq44 L C e i < 0
  · have h4 := grt_bad ok hbad
    have d3 : (decide (sq44 L C e 0 < e) || decide (minL (chosen L C e) < 0)) = true := by simpa using hbad.imp id chosen_neg.2
    have h1 : planC L C e = 8 := by rw [planC_ok ok, d3]; rfl
    have h2 : planL L C e = [] := by
      rcases plan_cases (e := e) h40 hcap with ⟨_, h, _⟩ | ⟨h, _⟩ | ⟨h, _⟩
      · exact h
      · rw [h1] at h; cases h
      · rw [h1] at h; cases h
    simp only [h1, h2, h4, hx, Bool.not_false, Bool.and_self, cond_true]
  · have h0 : e ≤ sq44 L C e 0 := by omega
    have hp : ∀ i, i ≤ L.length → 0 ≤ sq44 L C e i := fun i hi => Int.not_lt.1 fun h => hbad (.inr ⟨i, hi, h⟩)
    obtain ⟨g1, g2⟩ := grt_ok ok h0 hp
    rcases plan_cases (e := e) h40 hcap with ⟨h1, _, hw⟩ | ⟨_, _, h, _⟩ | ⟨h1, _, _, _, h2⟩
    · exfalso
      rcases hw with h | ⟨i, hi, h⟩ | ⟨_, h⟩ | ⟨_, h⟩
      · exact h hC
      · rw [hsn i hi] at h; cases h
      · omega
      · exact hbad h
    · exact absurd h hn
    · obtain ⟨q1, q2⟩ := rpl1_run (L := L) h40 (s := sq44 L C e) (z := 0)
      have c6 : (decide ((0 + L.length) * 64 ≤ maxNew) && decide (0 + L.length ≤ maxLen)) = true := by simp only [Bool.and_eq_true, decide_eq_true_eq]; exact ⟨by simp [maxNew]; omega, by simp [maxLen]; omega⟩
      have q1 : rpl1_cond ((0 : Int), chosen L C e, (L.length : Int)) ((0 : Int), L) = true := q1
      have q2 : rpl1_g ((0 : Int), chosen L C e, (L.length : Int)) ((0 : Int), L) = _ := q2
      rw [g2]
      rw [g1]
      simp only [h1, h2, c6, q1, q2, z0, hx, Bool.not_true, cond_false, Bool.and_self, cond_true]
noncomputable def rplc_g : List AV → Option (Tr AV)
  | [.one (.d _ _ (.prod (.prod (.int .i64) (.prod (.int .i64) (.prod (.int .i64) (.int .i64)))) (.prod (.int .i64) (.prod (.int .i64) (.prod (.int .i64) (.int .i64))))) L), .one (.d _ _ (.int .i64) C), .one (.v _ (.int .i64 e))] => some (.br (decide (L.length ≤ 40) && capB C) (.ret (.tup [(false, [.d false false (.prod (.prod (.int .i64) (.prod (.int .i64) (.prod (.int .i64) (.int .i64)))) (.prod (.int .i64) (.prod (.int .i64) (.prod (.int .i64) (.int .i64))))) (planL L C e)]), (false, [.v false (.int .i64 (planC L C e))])])) (.bad 900))
  | _ => none
set_option maxHeartbeats 4000000 in
theorem rplc_ok : FunOK Try.prog 19 rplc_g := by
  refine fun_ok (by kernel_rfl) (abT_S61_ok) (abR_L65_ok) 9 (On := (opens [])) (fun args t h => ?_)
  unfold rplc_g at h
  split at h
  · rename_i _ _ L _ _ C _ e
    simp only [Option.some.injEq] at h
    subst h
    refine ⟨[.one (.d false false (.prod (.prod (.int .i64) (.prod (.int .i64) (.prod (.int .i64) (.int .i64)))) (.prod (.int .i64) (.prod (.int .i64) (.prod (.int .i64) (.int .i64))))) L), .one (.d false false (.int .i64) C), .one (.v false (.int .i64 e))], rfl, fun fr w us h => h, fun r hr => ?_⟩
    obtain ⟨hc, hr⟩ := br_bad hr
    simp only [Tr.val, Option.some.injEq] at hr
    subst hr
    rw [rplc_tree]
    exact rplc_val L C e hc
  · cases h
noncomputable def abT_S62 : Sums := addS 19 rplc_g abT_S61
theorem abT_S62_ok : SumOK Try.prog abT_S62 := addS_ok (rplc_ok) (abT_S61_ok)
noncomputable def eqKL (K L : BkL) : Bool := @decide (K = L) (Classical.propDecidable _)
set_option maxRecDepth 100000 in
theorem samc_tree (K : (Ty.list (.prod (.prod (.int .i64) (.prod (.int .i64) (.prod (.int .i64) (.int .i64)))) (.prod (.int .i64) (.prod (.int .i64) (.prod (.int .i64) (.int .i64)))))).den) (L : (Ty.list (.prod (.prod (.int .i64) (.prod (.int .i64) (.prod (.int .i64) (.int .i64)))) (.prod (.int .i64) (.prod (.int .i64) (.prod (.int .i64) (.int .i64)))))).den) : evalF Try.prog abT_S62 (opens []) abR_L65 9 20 [.one (.d false false (.prod (.prod (.int .i64) (.prod (.int .i64) (.prod (.int .i64) (.int .i64)))) (.prod (.int .i64) (.prod (.int .i64) (.prod (.int .i64) (.int .i64))))) K), .one (.d false false (.prod (.prod (.int .i64) (.prod (.int .i64) (.prod (.int .i64) (.int .i64)))) (.prod (.int .i64) (.prod (.int .i64) (.prod (.int .i64) (.int .i64))))) L)] = .br ((bif (↑(List.length K) : Int) != (↑(List.length L) : Int) then true else ((sam_cond (K, L, (↑(List.length K) : Int)) (false, (0 : Int))) && (bif Nat.beq (Prod.fst (sam_g (K, L, (↑(List.length K) : Int)) (false, (0 : Int)))) (0 : Nat) then true else (Nat.beq (Prod.fst (sam_g (K, L, (↑(List.length K) : Int)) (false, (0 : Int)))) (1 : Nat)))))) (.ret (.one (.v false (.bool (bif (↑(List.length K) : Int) != (↑(List.length L) : Int) then false else bif Nat.beq (Prod.fst (sam_g (K, L, (↑(List.length K) : Int)) (false, (0 : Int)))) (0 : Nat) then Prod.fst (Prod.snd (sam_g (K, L, (↑(List.length K) : Int)) (false, (0 : Int)))) else true))))) (.bad 116) := by kernel_rfl
theorem samc_val (K : (Ty.list (.prod (.prod (.int .i64) (.prod (.int .i64) (.prod (.int .i64) (.int .i64)))) (.prod (.int .i64) (.prod (.int .i64) (.prod (.int .i64) (.int .i64)))))).den) (L : (Ty.list (.prod (.prod (.int .i64) (.prod (.int .i64) (.prod (.int .i64) (.int .i64)))) (.prod (.int .i64) (.prod (.int .i64) (.prod (.int .i64) (.int .i64)))))).den) (hc : (eqKL K L && decide (K.length ≤ 1000)) = true) : (.br ((bif (↑(List.length K) : Int) != (↑(List.length L) : Int) then true else ((sam_cond (K, L, (↑(List.length K) : Int)) (false, (0 : Int))) && (bif Nat.beq (Prod.fst (sam_g (K, L, (↑(List.length K) : Int)) (false, (0 : Int)))) (0 : Nat) then true else (Nat.beq (Prod.fst (sam_g (K, L, (↑(List.length K) : Int)) (false, (0 : Int)))) (1 : Nat)))))) (.ret (.one (.v false (.bool (bif (↑(List.length K) : Int) != (↑(List.length L) : Int) then false else bif Nat.beq (Prod.fst (sam_g (K, L, (↑(List.length K) : Int)) (false, (0 : Int)))) (0 : Nat) then Prod.fst (Prod.snd (sam_g (K, L, (↑(List.length K) : Int)) (false, (0 : Int)))) else true))))) (.bad 116) : Tr AV).val = some (.one (.v false (.bool true))) := by
  simp only [Bool.and_eq_true, decide_eq_true_eq] at hc
  obtain ⟨h0, h⟩ := hc
  obtain rfl : K = L := @of_decide_eq_true _ (Classical.propDecidable _) h0
  obtain ⟨r1, r2⟩ := sam_run h
  have z1 : Nat.beq 1 0 = false := rfl
  have z2 : Nat.beq 1 1 = true := rfl
  simp only [bne_self_eq_false, r1, r2, z1, z2, Tr.val, cond_false, cond_true, Bool.true_and]
noncomputable def samc_g : List AV → Option (Tr AV)
  | [.one (.d _ _ (.prod (.prod (.int .i64) (.prod (.int .i64) (.prod (.int .i64) (.int .i64)))) (.prod (.int .i64) (.prod (.int .i64) (.prod (.int .i64) (.int .i64))))) K), .one (.d _ _ (.prod (.prod (.int .i64) (.prod (.int .i64) (.prod (.int .i64) (.int .i64)))) (.prod (.int .i64) (.prod (.int .i64) (.prod (.int .i64) (.int .i64))))) L)] => some (.br (eqKL K L && decide (K.length ≤ 1000)) (.ret (.one (.v false (.bool true)))) (.bad 900))
  | _ => none
set_option maxHeartbeats 4000000 in
theorem samc_ok : FunOK Try.prog 20 samc_g := by
  refine fun_ok (by kernel_rfl) (abT_S62_ok) (abR_L65_ok) 9 (On := (opens [])) (fun args t h => ?_)
  unfold samc_g at h
  split at h
  · rename_i _ _ K _ _ L
    simp only [Option.some.injEq] at h
    subst h
    refine ⟨[.one (.d false false (.prod (.prod (.int .i64) (.prod (.int .i64) (.prod (.int .i64) (.int .i64)))) (.prod (.int .i64) (.prod (.int .i64) (.prod (.int .i64) (.int .i64))))) K), .one (.d false false (.prod (.prod (.int .i64) (.prod (.int .i64) (.prod (.int .i64) (.int .i64)))) (.prod (.int .i64) (.prod (.int .i64) (.prod (.int .i64) (.int .i64))))) L)], rfl, fun fr w us h => h, fun r hr => ?_⟩
    obtain ⟨hc, hr⟩ := br_bad hr
    simp only [Tr.val, Option.some.injEq] at hr
    subst hr
    rw [samc_tree]
    exact samc_val K L hc
  · cases h
noncomputable def abT_S63 : Sums := addS 20 samc_g abT_S62
theorem abT_S63_ok : SumOK Try.prog abT_S63 := addS_ok (samc_ok) (abT_S62_ok)
set_option maxRecDepth 100000 in
theorem law_AheadFeasible_tree (L : (Ty.list (.prod (.prod (.int .i64) (.prod (.int .i64) (.prod (.int .i64) (.int .i64)))) (.prod (.int .i64) (.prod (.int .i64) (.prod (.int .i64) (.int .i64)))))).den) (C : (Ty.list (.int .i64)).den) (e : Int) : evalF Try.prog abT_S63 (opens []) abR_L65 9 3 [.ag [.d false false (.prod (.prod (.int .i64) (.prod (.int .i64) (.prod (.int .i64) (.int .i64)))) (.prod (.int .i64) (.prod (.int .i64) (.prod (.int .i64) (.int .i64))))) L, .d false false (.int .i64) C, .v false (.int .i64 e)]] = .br ((bif !bif decide ((↑(List.length L) : Int) ≤ (40 : Int)) then decide ((↑(List.length C) : Int) ≤ (40 : Int)) else false then true else ((decide (List.length L ≤ (40 : Nat))) && (decide (List.length L ≤ (40 : Nat)))))) (.ret (.one (.v false (.bool (bif !bif decide ((↑(List.length L) : Int) ≤ (40 : Int)) then decide ((↑(List.length C) : Int) ≤ (40 : Int)) else false then true else bif feaB L C e == feaB L C e then true else false))))) (.bad 116) := by kernel_rfl
set_option maxHeartbeats 4000000 in
theorem law_AheadFeasible_all (L : (Ty.list (.prod (.prod (.int .i64) (.prod (.int .i64) (.prod (.int .i64) (.int .i64)))) (.prod (.int .i64) (.prod (.int .i64) (.prod (.int .i64) (.int .i64)))))).den) (C : (Ty.list (.int .i64)).den) (e : Int) (r0 : Ty.InR (.prod (.list (.prod (.prod (.int .i64) (.prod (.int .i64) (.prod (.int .i64) (.int .i64)))) (.prod (.int .i64) (.prod (.int .i64) (.prod (.int .i64) (.int .i64)))))) (.prod (.list (.int .i64)) (.int .i64))) (L, (C, e)))  : Tr.all (fun r => ∃ kn, r = AV.one (.v kn (.bool true))) (.br ((bif !bif decide ((↑(List.length L) : Int) ≤ (40 : Int)) then decide ((↑(List.length C) : Int) ≤ (40 : Int)) else false then true else ((decide (List.length L ≤ (40 : Nat))) && (decide (List.length L ≤ (40 : Nat)))))) (.ret (.one (.v false (.bool (bif !bif decide ((↑(List.length L) : Int) ≤ (40 : Int)) then decide ((↑(List.length C) : Int) ≤ (40 : Int)) else false then true else bif feaB L C e == feaB L C e then true else false))))) (.bad 116)) := by
  have hcap : capOk C := cap_of r0.2.1
  have hcb := capB_of hcap
  by_cases hs : L.length ≤ 40 ∧ C.length ≤ 40
  rotate_left
  · simp only [short_f hs, Bool.not_false, cond_true]
    exact ⟨fun _ => ⟨_, rfl⟩, fun h => by cases h⟩
  have h40 : decide (L.length ≤ 40) = true := decide_eq_true hs.1
  simp only [short_t hs, Bool.not_true, cond_false, h40, beq_self_eq_true, Bool.and_self, cond_true]
  exact ⟨fun _ => ⟨_, rfl⟩, fun h => by cases h⟩
set_option maxHeartbeats 4000000 in
theorem law_AheadFeasible (v0 : Value) (x0 : ((.prod (.list (.prod (.prod (.int .i64) (.prod (.int .i64) (.prod (.int .i64) (.int .i64)))) (.prod (.int .i64) (.prod (.int .i64) (.prod (.int .i64) (.int .i64)))))) (.prod (.list (.int .i64)) (.int .i64))) : Ty).den) (r0 : Ty.InR (.prod (.list (.prod (.prod (.int .i64) (.prod (.int .i64) (.prod (.int .i64) (.int .i64)))) (.prod (.int .i64) (.prod (.int .i64) (.prod (.int .i64) (.int .i64)))))) (.prod (.list (.int .i64)) (.int .i64))) x0) (z_w : World) (i0 : (AV.ag (Ty.cells false (.prod (.list (.prod (.prod (.int .i64) (.prod (.int .i64) (.prod (.int .i64) (.int .i64)))) (.prod (.int .i64) (.prod (.int .i64) (.prod (.int .i64) (.int .i64)))))) (.prod (.list (.int .i64)) (.int .i64))) x0)).is [] (fun _ => none) (fun b => b < z_w.heap.size) z_w v0) : Calls Try.prog 3 #[v0] z_w fun e w' => e = .returned (.bool true) ∧ Ext z_w w' := by
  obtain ⟨L, ⟨C, e⟩⟩ := x0
  refine law_of_tree (by kernel_rfl) (abT_S63_ok) (abR_L65_ok) (law_AheadFeasible_tree L C e) (law_AheadFeasible_all L C e r0 ) rfl z_w _ _ (fun _ h => h) ⟨_, _, rfl, i0, rfl⟩
set_option maxRecDepth 100000 in
theorem law_AheadPlans_tree (L : (Ty.list (.prod (.prod (.int .i64) (.prod (.int .i64) (.prod (.int .i64) (.int .i64)))) (.prod (.int .i64) (.prod (.int .i64) (.prod (.int .i64) (.int .i64)))))).den) (C : (Ty.list (.int .i64)).den) (e : Int) : evalF Try.prog abT_S63 (opens []) abR_L65 9 4 [.ag [.d false false (.prod (.prod (.int .i64) (.prod (.int .i64) (.prod (.int .i64) (.int .i64)))) (.prod (.int .i64) (.prod (.int .i64) (.prod (.int .i64) (.int .i64))))) L, .d false false (.int .i64) C, .v false (.int .i64 e)]] = .br ((bif !bif decide ((↑(List.length L) : Int) ≤ (40 : Int)) then decide ((↑(List.length C) : Int) ≤ (40 : Int)) else false then true else ((decide (List.length L ≤ (40 : Nat)) && capB C) && ((decide (List.length L ≤ (40 : Nat)) && capB C) && (bif planC L C e == planC L C e then (eqKL (planL L C e) (planL L C e) && decide (List.length (planL L C e) ≤ (1000 : Nat))) else true))))) (.ret (.one (.v false (.bool (bif !bif decide ((↑(List.length L) : Int) ≤ (40 : Int)) then decide ((↑(List.length C) : Int) ≤ (40 : Int)) else false then true else bif planC L C e == planC L C e then true else false))))) (.bad 116) := by kernel_rfl
set_option maxHeartbeats 4000000 in
theorem law_AheadPlans_all (L : (Ty.list (.prod (.prod (.int .i64) (.prod (.int .i64) (.prod (.int .i64) (.int .i64)))) (.prod (.int .i64) (.prod (.int .i64) (.prod (.int .i64) (.int .i64)))))).den) (C : (Ty.list (.int .i64)).den) (e : Int) (r0 : Ty.InR (.prod (.list (.prod (.prod (.int .i64) (.prod (.int .i64) (.prod (.int .i64) (.int .i64)))) (.prod (.int .i64) (.prod (.int .i64) (.prod (.int .i64) (.int .i64)))))) (.prod (.list (.int .i64)) (.int .i64))) (L, (C, e)))  : Tr.all (fun r => ∃ kn, r = AV.one (.v kn (.bool true))) (.br ((bif !bif decide ((↑(List.length L) : Int) ≤ (40 : Int)) then decide ((↑(List.length C) : Int) ≤ (40 : Int)) else false then true else ((decide (List.length L ≤ (40 : Nat)) && capB C) && ((decide (List.length L ≤ (40 : Nat)) && capB C) && (bif planC L C e == planC L C e then (eqKL (planL L C e) (planL L C e) && decide (List.length (planL L C e) ≤ (1000 : Nat))) else true))))) (.ret (.one (.v false (.bool (bif !bif decide ((↑(List.length L) : Int) ≤ (40 : Int)) then decide ((↑(List.length C) : Int) ≤ (40 : Int)) else false then true else bif planC L C e == planC L C e then true else false))))) (.bad 116)) := by
  have hcap : capOk C := cap_of r0.2.1
  have hcb := capB_of hcap
  by_cases hs : L.length ≤ 40 ∧ C.length ≤ 40
  rotate_left
  · simp only [short_f hs, Bool.not_false, cond_true]
    exact ⟨fun _ => ⟨_, rfl⟩, fun h => by cases h⟩
  have h40 : decide (L.length ≤ 40) = true := decide_eq_true hs.1
  have hlen : (planL L C e).length ≤ 1000 := by
    rcases plan_cases (e := e) hs.1 hcap with ⟨_, h, _⟩ | ⟨_, _, _, h⟩ | ⟨_, _, _, _, h⟩ <;> rw [h]
    · simp
    · simp
    · rw [tab_length]; omega
  have h5 : eqKL (planL L C e) (planL L C e) = true := @decide_eq_true _ (Classical.propDecidable _) rfl
  have h6 : decide ((planL L C e).length ≤ 1000) = true := decide_eq_true hlen
  simp only [short_t hs, Bool.not_true, cond_false, h40, hcb, h5, h6, beq_self_eq_true, Bool.and_self, cond_true]
  exact ⟨fun _ => ⟨_, rfl⟩, fun h => by cases h⟩
set_option maxHeartbeats 4000000 in
theorem law_AheadPlans (v0 : Value) (x0 : ((.prod (.list (.prod (.prod (.int .i64) (.prod (.int .i64) (.prod (.int .i64) (.int .i64)))) (.prod (.int .i64) (.prod (.int .i64) (.prod (.int .i64) (.int .i64)))))) (.prod (.list (.int .i64)) (.int .i64))) : Ty).den) (r0 : Ty.InR (.prod (.list (.prod (.prod (.int .i64) (.prod (.int .i64) (.prod (.int .i64) (.int .i64)))) (.prod (.int .i64) (.prod (.int .i64) (.prod (.int .i64) (.int .i64)))))) (.prod (.list (.int .i64)) (.int .i64))) x0) (z_w : World) (i0 : (AV.ag (Ty.cells false (.prod (.list (.prod (.prod (.int .i64) (.prod (.int .i64) (.prod (.int .i64) (.int .i64)))) (.prod (.int .i64) (.prod (.int .i64) (.prod (.int .i64) (.int .i64)))))) (.prod (.list (.int .i64)) (.int .i64))) x0)).is [] (fun _ => none) (fun b => b < z_w.heap.size) z_w v0) : Calls Try.prog 4 #[v0] z_w fun e w' => e = .returned (.bool true) ∧ Ext z_w w' := by
  obtain ⟨L, ⟨C, e⟩⟩ := x0
  refine law_of_tree (by kernel_rfl) (abT_S63_ok) (abR_L65_ok) (law_AheadPlans_tree L C e) (law_AheadPlans_all L C e r0 ) rfl z_w _ _ (fun _ h => h) ⟨_, _, rfl, i0, rfl⟩
end Go.Proofs.Ytaidlflnkdamkaa
