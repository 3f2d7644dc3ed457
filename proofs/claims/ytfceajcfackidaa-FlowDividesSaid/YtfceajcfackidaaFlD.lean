/-
  Layer 35: contracts of Amounts.
-/
import Derived.Test.YtfceajcfackidaaProg
import Derived.Test.YtfceajcfackidaaFvX
import Derived.Test.YtfceajcfackidaaFvZ
import Derived.Test.YtfceajcfackidaaAut
import Derived.Test.YtfceajcfackidaaRd
import Derived.Test.YtfceajcfackidaaPl
import Derived.Test.YtfceajcfackidaaFlA
import Derived.Test.YtfceajcfackidaaFlB
import Derived.Test.YtfceajcfackidaaFlC
import Derived.Test.YtfceajcfackidaaFlN
namespace Go.Proofs.Ytfceajcfackidaa
open Go
def amF (L : OpL) : Nat := firstB (bad35 L) L.length 0
def amOk (L : OpL) : Bool := !decide (amF L < L.length)
def amC (L : OpL) : Int := bif amOk L then 0 else bif ordK (kd L (amF L)) (nb35 L (amF L)).2 then 11 else 2
def amL (pi he dr rt : Int) (L : OpL) : List Int := bif amOk L then tab L.length (pz pi he dr rt L) else []
def opsOk (L : OpL) : Bool := decide (L.length ≤ 1000) && L.all (fun o => decide (o.2.2.2.2.2.length ≤ 100000))
def cutO (o : Op1) : Op1 := (o.1, o.2.1, o.2.2.1, o.2.2.2.1, o.2.2.2.2.1, o.2.2.2.2.2.take 200)
def fewL (L : OpL) : OpL := tab (min L.length 40) (fun i => cutO (oL L i))
noncomputable def eqIL (K L : List Int) : Bool := @decide (K = L) (Classical.propDecidable _)
theorem opsOk_of {L : OpL} (h : opsOk L = true) : L.length ≤ 1000 ∧ ∀ i, i < L.length → cn L i ≤ 100000 := by
  unfold opsOk at h
  rw [Bool.and_eq_true, List.all_eq_true] at h
  obtain ⟨h1, h2⟩ := h
  refine ⟨of_decide_eq_true h1, fun i hi => ?_⟩
  have h3 := of_decide_eq_true (h2 L[i] (List.getElem_mem hi))
  have e : oL L i = L[i] := by
    show L.getD i ((0, 0, 0, 0, 0, []) : Op1) = L[i]
    rw [List.getD, List.getElem?_eq_getElem hi]; rfl
  unfold cn
  rw [e]
  omega
section
variable {L : OpL} {pi he wa tp bo pa sp : Int} {su : Bool} {re ga br sk dr fe tr rt mt mf nz bd : Int}
theorem am_run (hs : sv pi he wa tp bo pa sp su re ga br sk dr fe tr rt mt mf nz bd = true) (ho : opsOk L = true) : am_cond (L, (L.length : Int), pi, he, wa, tp, bo, pa, sp, su, re, ga, br, sk, dr, fe, tr, rt, mt, mf, nz, bd) ((0 : Int), (0 : Int), false, (0 : Int), []) = true ∧ am_g (L, (L.length : Int), pi, he, wa, tp, bo, pa, sp, su, re, ga, br, sk, dr, fe, tr, rt, mt, mf, nz, bd) ((0 : Int), (0 : Int), false, (0 : Int), []) =
    (if amF L < L.length then (0, ((bif ordK (kd L (amF L)) (nb35 L (amF L)).2 then 11 else 2), (bif ordK (kd L (amF L)) (nb35 L (amF L)).2 then (nb35 L (amF L)).1 else (nb35 L (amF L + 1)).1), (nb35 L (amF L)).2, ((amF L : Nat) : Int), tab (amF L) (pz pi he dr rt L))) else (1, ((0 : Int), (nb35 L L.length).1, (nb35 L L.length).2, (L.length : Int), tab L.length (pz pi he dr rt L)))) := by
  obtain ⟨h1, h2⟩ := opsOk_of ho
  exact run_firstP (step := am_step (L, (L.length : Int), pi, he, wa, tp, bo, pa, sp, su, re, ga, br, sk, dr, fe, tr, rt, mt, mf, nz, bd)) (St := fun j => ((0 : Int), (nb35 L j).1, (nb35 L j).2, (j : Int), tab j (pz pi he dr rt L))) (out := fun j => (0, ((bif ordK (kd L j) (nb35 L j).2 then 11 else 2), (bif ordK (kd L j) (nb35 L j).2 then (nb35 L j).1 else (nb35 L (j + 1)).1), (nb35 L j).2, (j : Int), tab j (pz pi he dr rt L)))) (p := bad35 L) (n := L.length) (fun j hj hp => am_val hs h1 h2 hj hp)
    (fun _ => by simp only [am_step, Tr.val, Int.lt_irrefl, decide_false, cond_false])
end
theorem few_run (L : OpL) (hL : L.length ≤ maxLen) : few_cond L ((0 : Int), []) = true ∧ few_g L ((0 : Int), []) = (0, (((min L.length 40 : Nat) : Int), fewL L)) := by
  have := run_steps (step := few_step L) (St := fun j => ((j : Int), tab j (fun i => cutO (oL L i)))) (n := min L.length 40) (t := (0, (((min L.length 40 : Nat) : Int), fewL L))) (by
    have : (bif decide (((min L.length 40 : Nat) : Int) < (L.length : Int)) then decide (((min L.length 40 : Nat) : Int) < 40) else false) = false := by
      by_cases h : L.length < 40
      · rw [decide_eq_false (by omega)]; rfl
      · by_cases g : ((min L.length 40 : Nat) : Int) < (L.length : Int)
        · rw [decide_eq_true g, cond_true]; exact decide_eq_false (by omega)
        · rw [decide_eq_false g]; rfl
    simp only [few_step, Tr.val, this, cond_false]
    rfl) (min L.length 40) 0 (Nat.zero_add _) (fun j _ hj => by
    have c1 : decide ((j : Int) < (L.length : Int)) = true := decide_eq_true (by omega)
    have c2 : decide ((0 : Int) ≤ (j : Int)) = true := decide_eq_true (by omega)
    have c3 : decide ((j : Int) < 40) = true := decide_eq_true (by omega)
    have w1 : IntKind.wrap IntKind.i64 ((j : Int) + 1) = ((j + 1 : Nat) : Int) := by rw [wid (by omega) (by omega)]; omega
    have c6 : (decide ((j + 1) * 64 ≤ maxNew) && decide (j + 1 ≤ maxLen)) = true := by simp only [Bool.and_eq_true, decide_eq_true_eq]; exact ⟨by simp [maxNew]; omega, by simp [maxLen]; omega⟩
    have f0 : el_iiiiilii L (j : Int) = oL L j := rfl
    have ts : tab (j + 1) (fun i => cutO (oL L i)) = tab j (fun i => cutO (oL L i)) ++ [cutO (oL L j)] := tab_succ j _
    simp only [few_step, Tr.val, c1, c2, c3, w1, f0, tab_length, c6, ts, Bool.and_self, cond_true]
    by_cases h : (((oL L j).2.2.2.2.2.length : Nat) : Int) > 200
    · have d1 : decide ((((oL L j).2.2.2.2.2.length : Nat) : Int) > 200) = true := decide_eq_true h
      have d2 : (decide ((0 : Int) ≤ (0 : Int)) && decide ((0 : Int) ≤ (200 : Int)) && decide ((200 : Int) ≤ (((oL L j).2.2.2.2.2.length : Nat) : Int))) = true := by simp only [Bool.and_eq_true, decide_eq_true_eq]; omega
      simp only [d1, d2, cond_true]
      rfl
    · have d1 : decide ((((oL L j).2.2.2.2.2.length : Nat) : Int) > 200) = false := decide_eq_false h
      have e : cutO (oL L j) = oL L j := by
        unfold cutO
        rw [List.take_of_length_le (by omega)]
      simp only [d1, cond_false]
      rw [e])
  exact this
theorem few_ok (L : OpL) : opsOk (fewL L) = true := by
  unfold opsOk
  have hl : (fewL L).length = min L.length 40 := tab_length _ _
  rw [Bool.and_eq_true, List.all_eq_true]
  refine ⟨decide_eq_true (by rw [hl]; omega), fun o ho => ?_⟩
  unfold fewL tab at ho
  obtain ⟨i, _, rfl⟩ := List.mem_map.1 ho
  refine decide_eq_true ?_
  show (List.take 200 _).length ≤ _
  rw [List.length_take]; omega
theorem sam_run35 {K : List Int} (h : K.length ≤ 1000) : sam_cond (K, K) (false, (0 : Int)) = true ∧ sam_g (K, K) (false, (0 : Int)) = (1, (false, (K.length : Int))) := by
  refine run_steps (step := sam_step (K, K)) (St := fun j => (false, (j : Int))) (n := K.length) ?_ K.length 0 (Nat.zero_add _) (fun j _ hj => ?_)
  · simp only [sam_step, Tr.val, Int.lt_irrefl, decide_false, cond_false]
  · have c1 : decide ((j : Int) < (K.length : Int)) = true := decide_eq_true (by omega)
    have c2 : decide ((0 : Int) ≤ (j : Int)) = true := decide_eq_true (by omega)
    have w1 : IntKind.wrap IntKind.i64 ((j : Int) + 1) = ((j + 1 : Nat) : Int) := by rw [wid (by omega) (by omega)]; omega
    simp only [sam_step, Tr.val, c1, c2, w1, bne_self_eq_false, Bool.and_self, cond_true, cond_false]
noncomputable def lenOk (L : OpL) : Bool := decide (L.length ≤ maxLen)
set_option maxRecDepth 100000 in
theorem fewc_tree (L : (Ty.list (.prod (.int .i64) (.prod (.int .i64) (.prod (.int .i64) (.prod (.int .i64) (.prod (.int .i64) (.list (.prod (.int .i64) (.int .i64))))))))).den) : evalF Try.prog flB_S62 (opens []) flC_L63 9 8 [.one (.d false false (.prod (.int .i64) (.prod (.int .i64) (.prod (.int .i64) (.prod (.int .i64) (.prod (.int .i64) (.list (.prod (.int .i64) (.int .i64)))))))) L)] = .br (((few_cond L ((0 : Int), [])) && (Nat.beq (Prod.fst (few_g L ((0 : Int), []))) (0 : Nat)))) (.ret (.one (.d false false (.prod (.int .i64) (.prod (.int .i64) (.prod (.int .i64) (.prod (.int .i64) (.prod (.int .i64) (.list (.prod (.int .i64) (.int .i64)))))))) (Prod.snd (Prod.snd (few_g L ((0 : Int), []))))))) (.bad 116) := by kernel_rfl
theorem fewc_val (L : (Ty.list (.prod (.int .i64) (.prod (.int .i64) (.prod (.int .i64) (.prod (.int .i64) (.prod (.int .i64) (.list (.prod (.int .i64) (.int .i64))))))))).den) (hc : (lenOk L) = true) : (.br (((few_cond L ((0 : Int), [])) && (Nat.beq (Prod.fst (few_g L ((0 : Int), []))) (0 : Nat)))) (.ret (.one (.d false false (.prod (.int .i64) (.prod (.int .i64) (.prod (.int .i64) (.prod (.int .i64) (.prod (.int .i64) (.list (.prod (.int .i64) (.int .i64)))))))) (Prod.snd (Prod.snd (few_g L ((0 : Int), []))))))) (.bad 116) : Tr AV).val = some (.one (.d false false (.prod (.int .i64) (.prod (.int .i64) (.prod (.int .i64) (.prod (.int .i64) (.prod (.int .i64) (.list (.prod (.int .i64) (.int .i64)))))))) (fewL L))) := by
  obtain ⟨r1, r2⟩ := few_run L (of_decide_eq_true hc)
  have z0 : Nat.beq 0 0 = true := rfl
  simp only [r1, r2, z0, Bool.and_self, Tr.val, cond_true]
noncomputable def fewc_g : List AV → Option (Tr AV)
  | [.one (.d _ _ (.prod (.int .i64) (.prod (.int .i64) (.prod (.int .i64) (.prod (.int .i64) (.prod (.int .i64) (.list (.prod (.int .i64) (.int .i64)))))))) L)] => some (.br (lenOk L) (.ret (.one (.d false false (.prod (.int .i64) (.prod (.int .i64) (.prod (.int .i64) (.prod (.int .i64) (.prod (.int .i64) (.list (.prod (.int .i64) (.int .i64)))))))) (fewL L)))) (.bad 900))
  | _ => none
set_option maxHeartbeats 4000000 in
theorem fewc_ok : FunOK Try.prog 8 fewc_g := by
  refine fun_ok (by kernel_rfl) (flB_S62_ok) (flC_L63_ok) 9 (On := (opens [])) (fun args t h => ?_)
  unfold fewc_g at h
  split at h
  · rename_i _ _ L
    simp only [Option.some.injEq] at h
    subst h
    refine ⟨[.one (.d false false (.prod (.int .i64) (.prod (.int .i64) (.prod (.int .i64) (.prod (.int .i64) (.prod (.int .i64) (.list (.prod (.int .i64) (.int .i64)))))))) L)], rfl, fun fr w us h => h, fun r hr => ?_⟩
    obtain ⟨hc, hr⟩ := br_bad hr
    simp only [Tr.val, Option.some.injEq] at hr
    subst hr
    rw [fewc_tree]
    exact fewc_val L hc
  · cases h
noncomputable def flD_S61 : Sums := addS 8 fewc_g flB_S62
theorem flD_S61_ok : SumOK Try.prog flD_S61 := addS_ok (fewc_ok) (flB_S62_ok)
set_option maxRecDepth 100000 in
theorem amc_tree (L : (Ty.list (.prod (.int .i64) (.prod (.int .i64) (.prod (.int .i64) (.prod (.int .i64) (.prod (.int .i64) (.list (.prod (.int .i64) (.int .i64))))))))).den) (pi : Int) (he : Int) (wa : Int) (tp : Int) (bo : Int) (pa : Int) (sp : Int) (su : Bool) (re : Int) (ga : Int) (br : Int) (sk : Int) (dr : Int) (fe : Int) (tr : Int) (rt : Int) (mt : Int) (mf : Int) (nz : Int) (bd : Int) : evalF Try.prog flD_S61 (opens []) flC_L63 9 7 [.one (.d false false (.prod (.int .i64) (.prod (.int .i64) (.prod (.int .i64) (.prod (.int .i64) (.prod (.int .i64) (.list (.prod (.int .i64) (.int .i64)))))))) L), .ag [.v false (.int .i64 pi), .v false (.int .i64 he), .v false (.int .i64 wa), .v false (.int .i64 tp), .v false (.int .i64 bo), .v false (.int .i64 pa), .v false (.int .i64 sp), .v false (.bool su), .v false (.int .i64 re), .v false (.int .i64 ga), .v false (.int .i64 br), .v false (.int .i64 sk), .v false (.int .i64 dr), .v false (.int .i64 fe), .v false (.int .i64 tr), .v false (.int .i64 rt), .v false (.int .i64 mt), .v false (.int .i64 mf), .v false (.int .i64 nz), .v false (.int .i64 bd)]] = .br ((bif !sv pi he wa tp bo pa sp su re ga br sk dr fe tr rt mt mf nz bd then true else ((am_cond (L, (↑(List.length L) : Int), pi, he, wa, tp, bo, pa, sp, su, re, ga, br, sk, dr, fe, tr, rt, mt, mf, nz, bd) ((0 : Int), (0 : Int), false, (0 : Int), [])) && (bif Nat.beq (Prod.fst (am_g (L, (↑(List.length L) : Int), pi, he, wa, tp, bo, pa, sp, su, re, ga, br, sk, dr, fe, tr, rt, mt, mf, nz, bd) ((0 : Int), (0 : Int), false, (0 : Int), []))) (0 : Nat) then true else (Nat.beq (Prod.fst (am_g (L, (↑(List.length L) : Int), pi, he, wa, tp, bo, pa, sp, su, re, ga, br, sk, dr, fe, tr, rt, mt, mf, nz, bd) ((0 : Int), (0 : Int), false, (0 : Int), []))) (1 : Nat)))))) (.ret (.tup [(false, [.d false false (.int .i64) (bif !sv pi he wa tp bo pa sp su re ga br sk dr fe tr rt mt mf nz bd then [] else bif Nat.beq (Prod.fst (am_g (L, (↑(List.length L) : Int), pi, he, wa, tp, bo, pa, sp, su, re, ga, br, sk, dr, fe, tr, rt, mt, mf, nz, bd) ((0 : Int), (0 : Int), false, (0 : Int), []))) (0 : Nat) then [] else Prod.snd (Prod.snd (Prod.snd (Prod.snd (Prod.snd (am_g (L, (↑(List.length L) : Int), pi, he, wa, tp, bo, pa, sp, su, re, ga, br, sk, dr, fe, tr, rt, mt, mf, nz, bd) ((0 : Int), (0 : Int), false, (0 : Int), [])))))))]), (false, [.v false (.int .i64 (bif !sv pi he wa tp bo pa sp su re ga br sk dr fe tr rt mt mf nz bd then (1 : Int) else bif Nat.beq (Prod.fst (am_g (L, (↑(List.length L) : Int), pi, he, wa, tp, bo, pa, sp, su, re, ga, br, sk, dr, fe, tr, rt, mt, mf, nz, bd) ((0 : Int), (0 : Int), false, (0 : Int), []))) (0 : Nat) then Prod.fst (Prod.snd (am_g (L, (↑(List.length L) : Int), pi, he, wa, tp, bo, pa, sp, su, re, ga, br, sk, dr, fe, tr, rt, mt, mf, nz, bd) ((0 : Int), (0 : Int), false, (0 : Int), []))) else (0 : Int)))])])) (.bad 116) := by kernel_rfl
theorem amc_val (L : (Ty.list (.prod (.int .i64) (.prod (.int .i64) (.prod (.int .i64) (.prod (.int .i64) (.prod (.int .i64) (.list (.prod (.int .i64) (.int .i64))))))))).den) (pi : Int) (he : Int) (wa : Int) (tp : Int) (bo : Int) (pa : Int) (sp : Int) (su : Bool) (re : Int) (ga : Int) (br : Int) (sk : Int) (dr : Int) (fe : Int) (tr : Int) (rt : Int) (mt : Int) (mf : Int) (nz : Int) (bd : Int) (hc : (opsOk L) = true) : (.br ((bif !sv pi he wa tp bo pa sp su re ga br sk dr fe tr rt mt mf nz bd then true else ((am_cond (L, (↑(List.length L) : Int), pi, he, wa, tp, bo, pa, sp, su, re, ga, br, sk, dr, fe, tr, rt, mt, mf, nz, bd) ((0 : Int), (0 : Int), false, (0 : Int), [])) && (bif Nat.beq (Prod.fst (am_g (L, (↑(List.length L) : Int), pi, he, wa, tp, bo, pa, sp, su, re, ga, br, sk, dr, fe, tr, rt, mt, mf, nz, bd) ((0 : Int), (0 : Int), false, (0 : Int), []))) (0 : Nat) then true else (Nat.beq (Prod.fst (am_g (L, (↑(List.length L) : Int), pi, he, wa, tp, bo, pa, sp, su, re, ga, br, sk, dr, fe, tr, rt, mt, mf, nz, bd) ((0 : Int), (0 : Int), false, (0 : Int), []))) (1 : Nat)))))) (.ret (.tup [(false, [.d false false (.int .i64) (bif !sv pi he wa tp bo pa sp su re ga br sk dr fe tr rt mt mf nz bd then [] else bif Nat.beq (Prod.fst (am_g (L, (↑(List.length L) : Int), pi, he, wa, tp, bo, pa, sp, su, re, ga, br, sk, dr, fe, tr, rt, mt, mf, nz, bd) ((0 : Int), (0 : Int), false, (0 : Int), []))) (0 : Nat) then [] else Prod.snd (Prod.snd (Prod.snd (Prod.snd (Prod.snd (am_g (L, (↑(List.length L) : Int), pi, he, wa, tp, bo, pa, sp, su, re, ga, br, sk, dr, fe, tr, rt, mt, mf, nz, bd) ((0 : Int), (0 : Int), false, (0 : Int), [])))))))]), (false, [.v false (.int .i64 (bif !sv pi he wa tp bo pa sp su re ga br sk dr fe tr rt mt mf nz bd then (1 : Int) else bif Nat.beq (Prod.fst (am_g (L, (↑(List.length L) : Int), pi, he, wa, tp, bo, pa, sp, su, re, ga, br, sk, dr, fe, tr, rt, mt, mf, nz, bd) ((0 : Int), (0 : Int), false, (0 : Int), []))) (0 : Nat) then Prod.fst (Prod.snd (am_g (L, (↑(List.length L) : Int), pi, he, wa, tp, bo, pa, sp, su, re, ga, br, sk, dr, fe, tr, rt, mt, mf, nz, bd) ((0 : Int), (0 : Int), false, (0 : Int), []))) else (0 : Int)))])])) (.bad 116) : Tr AV).val = some (.tup [(false, [.d false false (.int .i64) (bif sv pi he wa tp bo pa sp su re ga br sk dr fe tr rt mt mf nz bd then amL pi he dr rt L else [])]), (false, [.v false (.int .i64 (bif sv pi he wa tp bo pa sp su re ga br sk dr fe tr rt mt mf nz bd then amC L else 1))])]) := by
  cases hs : sv pi he wa tp bo pa sp su re ga br sk dr fe tr rt mt mf nz bd
  · simp only [Bool.not_false, cond_true, cond_false, Tr.val]
  · obtain ⟨r1, r2⟩ := am_run hs hc
    have z0 : Nat.beq 0 0 = true := rfl
    have z1 : Nat.beq 1 0 = false := rfl
    have z2 : Nat.beq 1 1 = true := rfl
    unfold amL amC amOk
    by_cases hf : amF L < L.length
    · rw [if_pos hf] at r2
      have d : decide (amF L < L.length) = true := decide_eq_true hf
      simp only [r1, r2, z0, d, Bool.not_true, cond_true, cond_false, Bool.and_self, Tr.val]
    · rw [if_neg hf] at r2
      have d : decide (amF L < L.length) = false := decide_eq_false hf
      simp only [r1, r2, z1, z2, d, Bool.not_true, Bool.not_false, cond_true, cond_false, Bool.and_self, Tr.val]
noncomputable def amc_g : List AV → Option (Tr AV)
  | [.one (.d _ _ (.prod (.int .i64) (.prod (.int .i64) (.prod (.int .i64) (.prod (.int .i64) (.prod (.int .i64) (.list (.prod (.int .i64) (.int .i64)))))))) L), .ag [.v _ (.int .i64 pi), .v _ (.int .i64 he), .v _ (.int .i64 wa), .v _ (.int .i64 tp), .v _ (.int .i64 bo), .v _ (.int .i64 pa), .v _ (.int .i64 sp), .v _ (.bool su), .v _ (.int .i64 re), .v _ (.int .i64 ga), .v _ (.int .i64 br), .v _ (.int .i64 sk), .v _ (.int .i64 dr), .v _ (.int .i64 fe), .v _ (.int .i64 tr), .v _ (.int .i64 rt), .v _ (.int .i64 mt), .v _ (.int .i64 mf), .v _ (.int .i64 nz), .v _ (.int .i64 bd)]] => some (.br (opsOk L) (.ret (.tup [(false, [.d false false (.int .i64) (bif sv pi he wa tp bo pa sp su re ga br sk dr fe tr rt mt mf nz bd then amL pi he dr rt L else [])]), (false, [.v false (.int .i64 (bif sv pi he wa tp bo pa sp su re ga br sk dr fe tr rt mt mf nz bd then amC L else 1))])])) (.bad 900))
  | _ => none
set_option maxHeartbeats 4000000 in
theorem amc_ok : FunOK Try.prog 7 amc_g := by
  refine fun_ok (by kernel_rfl) (flD_S61_ok) (flC_L63_ok) 9 (On := (opens [])) (fun args t h => ?_)
  unfold amc_g at h
  split at h
  · rename_i _ _ L _ pi _ he _ wa _ tp _ bo _ pa _ sp _ su _ re _ ga _ br _ sk _ dr _ fe _ tr _ rt _ mt _ mf _ nz _ bd
    simp only [Option.some.injEq] at h
    subst h
    refine ⟨[.one (.d false false (.prod (.int .i64) (.prod (.int .i64) (.prod (.int .i64) (.prod (.int .i64) (.prod (.int .i64) (.list (.prod (.int .i64) (.int .i64)))))))) L), .ag [.v false (.int .i64 pi), .v false (.int .i64 he), .v false (.int .i64 wa), .v false (.int .i64 tp), .v false (.int .i64 bo), .v false (.int .i64 pa), .v false (.int .i64 sp), .v false (.bool su), .v false (.int .i64 re), .v false (.int .i64 ga), .v false (.int .i64 br), .v false (.int .i64 sk), .v false (.int .i64 dr), .v false (.int .i64 fe), .v false (.int .i64 tr), .v false (.int .i64 rt), .v false (.int .i64 mt), .v false (.int .i64 mf), .v false (.int .i64 nz), .v false (.int .i64 bd)]], rfl, fun fr w us h => h, fun r hr => ?_⟩
    obtain ⟨hc, hr⟩ := br_bad hr
    simp only [Tr.val, Option.some.injEq] at hr
    subst hr
    rw [amc_tree]
    exact amc_val L pi he wa tp bo pa sp su re ga br sk dr fe tr rt mt mf nz bd hc
  · cases h
noncomputable def flD_S62 : Sums := addS 7 amc_g flD_S61
theorem flD_S62_ok : SumOK Try.prog flD_S62 := addS_ok (amc_ok) (flD_S61_ok)
set_option maxRecDepth 100000 in
theorem samc_tree (K : (Ty.list (.int .i64)).den) (L : (Ty.list (.int .i64)).den) : evalF Try.prog flD_S62 (opens []) flC_L63 9 9 [.one (.d false false (.int .i64) K), .one (.d false false (.int .i64) L)] = .br ((bif (↑(List.length K) : Int) != (↑(List.length L) : Int) then true else ((sam_cond (K, L) (false, (0 : Int))) && (bif Nat.beq (Prod.fst (sam_g (K, L) (false, (0 : Int)))) (0 : Nat) then true else (Nat.beq (Prod.fst (sam_g (K, L) (false, (0 : Int)))) (1 : Nat)))))) (.ret (.one (.v false (.bool (bif (↑(List.length K) : Int) != (↑(List.length L) : Int) then false else bif Nat.beq (Prod.fst (sam_g (K, L) (false, (0 : Int)))) (0 : Nat) then Prod.fst (Prod.snd (sam_g (K, L) (false, (0 : Int)))) else true))))) (.bad 116) := by kernel_rfl
theorem samc_val (K : (Ty.list (.int .i64)).den) (L : (Ty.list (.int .i64)).den) (hc : (eqIL K L && decide (K.length ≤ 1000)) = true) : (.br ((bif (↑(List.length K) : Int) != (↑(List.length L) : Int) then true else ((sam_cond (K, L) (false, (0 : Int))) && (bif Nat.beq (Prod.fst (sam_g (K, L) (false, (0 : Int)))) (0 : Nat) then true else (Nat.beq (Prod.fst (sam_g (K, L) (false, (0 : Int)))) (1 : Nat)))))) (.ret (.one (.v false (.bool (bif (↑(List.length K) : Int) != (↑(List.length L) : Int) then false else bif Nat.beq (Prod.fst (sam_g (K, L) (false, (0 : Int)))) (0 : Nat) then Prod.fst (Prod.snd (sam_g (K, L) (false, (0 : Int)))) else true))))) (.bad 116) : Tr AV).val = some (.one (.v false (.bool true))) := by
  simp only [Bool.and_eq_true, decide_eq_true_eq] at hc
  obtain ⟨h0, h⟩ := hc
  obtain rfl : K = L := @of_decide_eq_true _ (Classical.propDecidable _) h0
  obtain ⟨r1, r2⟩ := sam_run35 h
  have z1 : Nat.beq 1 0 = false := rfl
  have z2 : Nat.beq 1 1 = true := rfl
  simp only [bne_self_eq_false, r1, r2, z1, z2, Tr.val, cond_false, cond_true, Bool.true_and]
noncomputable def samc_g : List AV → Option (Tr AV)
  | [.one (.d _ _ (.int .i64) K), .one (.d _ _ (.int .i64) L)] => some (.br (eqIL K L && decide (K.length ≤ 1000)) (.ret (.one (.v false (.bool true)))) (.bad 900))
  | _ => none
set_option maxHeartbeats 4000000 in
theorem samc_ok : FunOK Try.prog 9 samc_g := by
  refine fun_ok (by kernel_rfl) (flD_S62_ok) (flC_L63_ok) 9 (On := (opens [])) (fun args t h => ?_)
  unfold samc_g at h
  split at h
  · rename_i _ _ K _ _ L
    simp only [Option.some.injEq] at h
    subst h
    refine ⟨[.one (.d false false (.int .i64) K), .one (.d false false (.int .i64) L)], rfl, fun fr w us h => h, fun r hr => ?_⟩
    obtain ⟨hc, hr⟩ := br_bad hr
    simp only [Tr.val, Option.some.injEq] at hr
    subst hr
    rw [samc_tree]
    exact samc_val K L hc
  · cases h
noncomputable def flD_S63 : Sums := addS 9 samc_g flD_S62
theorem flD_S63_ok : SumOK Try.prog flD_S63 := addS_ok (samc_ok) (flD_S62_ok)
end Go.Proofs.Ytfceajcfackidaa
