/-
  Layer 44: contracts of IndexFunc and Min; the loops of Feasible and Plan.
-/
import Derived.Test.YtaidlflnkdamkaaProg
import Derived.Test.YtaidlflnkdamkaaFvX
import Derived.Test.YtaidlflnkdamkaaFvZ
import Derived.Test.YtaidlflnkdamkaaAut
import Derived.Test.YtaidlflnkdamkaaAbA
import Derived.Test.YtaidlflnkdamkaaAbB
import Derived.Test.YtaidlflnkdamkaaAbM
import Derived.Test.YtaidlflnkdamkaaAbN
import Derived.Test.YtaidlflnkdamkaaAbC
namespace Go.Proofs.Ytaidlflnkdamkaa
open Go
theorem ix_first {V : Type} {step : V → Tr (V ⊕ (Nat × V))} {St : Nat → V} {p : Nat → Bool} {n : Nat} (h1 : ∀ j, j < n → p j = false → (step (St j)).val = some (.inl (St (j + 1)))) (h2 : ∀ j, j < n → p j = true → (step (St j)).val = some (.inr (0, St j))) (h3 : (step (St n)).val = some (.inr (1, St n))) :
    runC step (St 0) = true ∧ runG step (St 0) = (if firstB p n 0 < n then (0, St (firstB p n 0)) else (1, St n)) := by
  obtain ⟨_, g2, g3, g4⟩ := firstB_spec p n 0
  by_cases hn : firstB p n 0 < n
  · rw [if_pos hn]
    exact run_steps (St := St) (n := firstB p n 0) (h2 _ hn (g4 (by omega))) _ 0 (Nat.zero_add _) fun j _ hj => h1 j (by omega) (g3 j (by omega) hj)
  · rw [if_neg hn]
    exact run_steps (St := St) (n := n) h3 n 0 (Nat.zero_add _) fun j _ hj => h1 j hj (g3 j (by omega) (by omega))

theorem ix1_run {L : BkL} (hL : L.length ≤ 40) : ∃ t, runC (ix1_step (L, (L.length : Int))) ((0 : Int), (0 : Int)) = true ∧ runG (ix1_step (L, (L.length : Int))) ((0 : Int), (0 : Int)) = t ∧ (t.1 = 0 ∧ t.2.1 = ixOf (fun b : Bk => !valB b) L ∨ t.1 = 1 ∧ ixOf (fun b : Bk => !valB b) L = -1) := by
  have hfi := ixOf_first (fun b : Bk => !valB b) L ((0, 0, 0, 0), 0, 0, 0, 0)
  obtain ⟨_, g2, g3, g4⟩ := firstB_spec (fun i => (fun b : Bk => !valB b) (L.getD i ((0, 0, 0, 0), 0, 0, 0, 0))) L.length 0
  generalize firstB (fun i => (fun b : Bk => !valB b) (L.getD i ((0, 0, 0, 0), 0, 0, 0, 0))) L.length 0 = n at *
  have step1 : ∀ (j : Nat) (x : Int), j < L.length → (ix1_step (L, (L.length : Int)) (x, (j : Int))).val = cond ((fun b : Bk => !valB b) (L.getD j ((0, 0, 0, 0), 0, 0, 0, 0))) (some (.inr (0, ((j : Int), (j : Int))))) (some (.inl (x, ((j + 1 : Nat) : Int)))) := fun j x hj => by
    have c1 : decide ((j : Int) < (L.length : Int)) = true := by simp; omega
    have c2 : decide ((0 : Int) ≤ (j : Int)) = true := by simp
    have w1 : IntKind.wrap IntKind.i64 ((j : Int) + 1) = ((j + 1 : Nat) : Int) := by rw [wid (by omega) (by omega)]; omega
    simp only [ix1_step, Tr.val, c1, c2, w1, Bool.and_self, cond_true]
    rfl
  have stepE : ∀ (x : Int), (ix1_step (L, (L.length : Int)) (x, (L.length : Int))).val = some (.inr (1, (x, (L.length : Int)))) := fun x => by
    simp only [ix1_step, Tr.val, Int.lt_irrefl, decide_false, cond_false]
  by_cases hn : n < L.length
  · rw [if_pos hn] at hfi
    have := run_steps (step := ix1_step (L, (L.length : Int))) (St := fun j => ((0 : Int), (j : Int))) (n := n) (t := (0, ((n : Int), (n : Int)))) (by
      have := g4 (by omega)
      dsimp only at this
      rw [step1 n _ hn]; dsimp only; rw [this]; rfl) n 0 (Nat.zero_add _) (fun j _ hj => by
      have := g3 j (by omega) hj
      dsimp only at this
      rw [step1 j _ (by omega)]; dsimp only; rw [this]; rfl)
    exact ⟨_, this.1, this.2, .inl ⟨rfl, hfi.symm⟩⟩
  · rw [if_neg hn] at hfi
    have := run_steps (step := ix1_step (L, (L.length : Int))) (St := fun j => ((0 : Int), (j : Int))) (n := L.length) (stepE _) L.length 0 (Nat.zero_add _) (fun j _ hj => by
      have := g3 j (by omega) (by omega)
      dsimp only at this
      rw [step1 j _ hj]; dsimp only; rw [this]; rfl)
    exact ⟨_, this.1, this.2, .inr ⟨rfl, hfi⟩⟩
set_option maxRecDepth 100000 in
theorem ixf1_tree (L : (Ty.list (.prod (.prod (.int .i64) (.prod (.int .i64) (.prod (.int .i64) (.int .i64)))) (.prod (.int .i64) (.prod (.int .i64) (.prod (.int .i64) (.int .i64)))))).den) : evalF Try.prog abC_S61 (opens []) abC_L64 9 62 [.one (.d false false (.prod (.prod (.int .i64) (.prod (.int .i64) (.prod (.int .i64) (.int .i64)))) (.prod (.int .i64) (.prod (.int .i64) (.prod (.int .i64) (.int .i64))))) L), .one (.fn 40 [])] = .br (((ix1_cond (L, ↑(List.length L)) ((0 : Int), (0 : Int))) && (bif Nat.beq (Prod.fst (ix1_g (L, ↑(List.length L)) ((0 : Int), (0 : Int)))) (0 : Nat) then true else (Nat.beq (Prod.fst (ix1_g (L, ↑(List.length L)) ((0 : Int), (0 : Int)))) (1 : Nat))))) (.ret (.one (.v false (.int .i64 (bif Nat.beq (Prod.fst (ix1_g (L, ↑(List.length L)) ((0 : Int), (0 : Int)))) (0 : Nat) then Prod.fst (Prod.snd (ix1_g (L, ↑(List.length L)) ((0 : Int), (0 : Int)))) else (-1 : Int)))))) (.bad 116) := by kernel_rfl
theorem ixf1_val (L : (Ty.list (.prod (.prod (.int .i64) (.prod (.int .i64) (.prod (.int .i64) (.int .i64)))) (.prod (.int .i64) (.prod (.int .i64) (.prod (.int .i64) (.int .i64)))))).den) (hc : (decide (L.length ≤ 40)) = true) : (.br (((ix1_cond (L, ↑(List.length L)) ((0 : Int), (0 : Int))) && (bif Nat.beq (Prod.fst (ix1_g (L, ↑(List.length L)) ((0 : Int), (0 : Int)))) (0 : Nat) then true else (Nat.beq (Prod.fst (ix1_g (L, ↑(List.length L)) ((0 : Int), (0 : Int)))) (1 : Nat))))) (.ret (.one (.v false (.int .i64 (bif Nat.beq (Prod.fst (ix1_g (L, ↑(List.length L)) ((0 : Int), (0 : Int)))) (0 : Nat) then Prod.fst (Prod.snd (ix1_g (L, ↑(List.length L)) ((0 : Int), (0 : Int)))) else (-1 : Int)))))) (.bad 116) : Tr AV).val = some (.one (.v false (.int .i64 (ixOf (fun b : Bk => !valB b) L)))) := by
  have h := of_decide_eq_true hc
  obtain ⟨t, h1, h2, h3⟩ := ix1_run h
  have a1 : ix1_cond (L, (L.length : Int)) ((0 : Int), (0 : Int)) = true := h1
  have a2 : ix1_g (L, (L.length : Int)) ((0 : Int), (0 : Int)) = t := h2
  obtain ⟨k, x, y⟩ := t
  simp only [a1, a2, Tr.val]
  rcases h3 with ⟨e1, e2⟩ | ⟨e1, e2⟩ <;> (dsimp only at e1 e2; subst e1; rw [← e2]) <;> rfl
noncomputable def ixf1_g : List AV → Option (Tr AV)
  | [.one (.d _ _ (.prod (.prod (.int .i64) (.prod (.int .i64) (.prod (.int .i64) (.int .i64)))) (.prod (.int .i64) (.prod (.int .i64) (.prod (.int .i64) (.int .i64))))) L), .one (.fn 40 [])] => some (.br (decide (L.length ≤ 40)) (.ret (.one (.v false (.int .i64 (ixOf (fun b : Bk => !valB b) L))))) (.bad 900))
  | _ => none
set_option maxHeartbeats 4000000 in
theorem ixf1_ok : FunOK Try.prog 62 ixf1_g := by
  refine fun_ok (by kernel_rfl) (abC_S61_ok) (abC_L64_ok) 9 (On := (opens [])) (fun args t h => ?_)
  unfold ixf1_g at h
  split at h
  · rename_i _ _ L
    simp only [Option.some.injEq] at h
    subst h
    refine ⟨[.one (.d false false (.prod (.prod (.int .i64) (.prod (.int .i64) (.prod (.int .i64) (.int .i64)))) (.prod (.int .i64) (.prod (.int .i64) (.prod (.int .i64) (.int .i64))))) L), .one (.fn 40 [])], rfl, fun fr w us h => h, fun r hr => ?_⟩
    obtain ⟨hc, hr⟩ := br_bad hr
    simp only [Tr.val, Option.some.injEq] at hr
    subst hr
    rw [ixf1_tree]
    exact ixf1_val L hc
  · cases h
noncomputable def abD_S61 : Sums := addS 62 ixf1_g abC_S61
theorem abD_S61_ok : SumOK Try.prog abD_S61 := addS_ok (ixf1_ok) (abC_S61_ok)

theorem ix2_run {L : BkL} (hL : L.length ≤ 40) : ∃ t, runC (ix2_step (L, (L.length : Int))) ((0 : Int), (0 : Int)) = true ∧ runG (ix2_step (L, (L.length : Int))) ((0 : Int), (0 : Int)) = t ∧ (t.1 = 0 ∧ t.2.1 = ixOf (fun b : Bk => !sndB b) L ∨ t.1 = 1 ∧ ixOf (fun b : Bk => !sndB b) L = -1) := by
  have hfi := ixOf_first (fun b : Bk => !sndB b) L ((0, 0, 0, 0), 0, 0, 0, 0)
  obtain ⟨_, g2, g3, g4⟩ := firstB_spec (fun i => (fun b : Bk => !sndB b) (L.getD i ((0, 0, 0, 0), 0, 0, 0, 0))) L.length 0
  generalize firstB (fun i => (fun b : Bk => !sndB b) (L.getD i ((0, 0, 0, 0), 0, 0, 0, 0))) L.length 0 = n at *
  have step1 : ∀ (j : Nat) (x : Int), j < L.length → (ix2_step (L, (L.length : Int)) (x, (j : Int))).val = cond ((fun b : Bk => !sndB b) (L.getD j ((0, 0, 0, 0), 0, 0, 0, 0))) (some (.inr (0, ((j : Int), (j : Int))))) (some (.inl (x, ((j + 1 : Nat) : Int)))) := fun j x hj => by
    have c1 : decide ((j : Int) < (L.length : Int)) = true := by simp; omega
    have c2 : decide ((0 : Int) ≤ (j : Int)) = true := by simp
    have w1 : IntKind.wrap IntKind.i64 ((j : Int) + 1) = ((j + 1 : Nat) : Int) := by rw [wid (by omega) (by omega)]; omega
    simp only [ix2_step, Tr.val, c1, c2, w1, Bool.and_self, cond_true]
    rfl
  have stepE : ∀ (x : Int), (ix2_step (L, (L.length : Int)) (x, (L.length : Int))).val = some (.inr (1, (x, (L.length : Int)))) := fun x => by
    simp only [ix2_step, Tr.val, Int.lt_irrefl, decide_false, cond_false]
  by_cases hn : n < L.length
  · rw [if_pos hn] at hfi
    have := run_steps (step := ix2_step (L, (L.length : Int))) (St := fun j => ((0 : Int), (j : Int))) (n := n) (t := (0, ((n : Int), (n : Int)))) (by
      have := g4 (by omega)
      dsimp only at this
      rw [step1 n _ hn]; dsimp only; rw [this]; rfl) n 0 (Nat.zero_add _) (fun j _ hj => by
      have := g3 j (by omega) hj
      dsimp only at this
      rw [step1 j _ (by omega)]; dsimp only; rw [this]; rfl)
    exact ⟨_, this.1, this.2, .inl ⟨rfl, hfi.symm⟩⟩
  · rw [if_neg hn] at hfi
    have := run_steps (step := ix2_step (L, (L.length : Int))) (St := fun j => ((0 : Int), (j : Int))) (n := L.length) (stepE _) L.length 0 (Nat.zero_add _) (fun j _ hj => by
      have := g3 j (by omega) (by omega)
      dsimp only at this
      rw [step1 j _ hj]; dsimp only; rw [this]; rfl)
    exact ⟨_, this.1, this.2, .inr ⟨rfl, hfi⟩⟩
set_option maxRecDepth 100000 in
theorem ixf2_tree (L : (Ty.list (.prod (.prod (.int .i64) (.prod (.int .i64) (.prod (.int .i64) (.int .i64)))) (.prod (.int .i64) (.prod (.int .i64) (.prod (.int .i64) (.int .i64)))))).den) : evalF Try.prog abD_S61 (opens []) abC_L64 9 62 [.one (.d false false (.prod (.prod (.int .i64) (.prod (.int .i64) (.prod (.int .i64) (.int .i64)))) (.prod (.int .i64) (.prod (.int .i64) (.prod (.int .i64) (.int .i64))))) L), .one (.fn 44 [])] = .br (((ix2_cond (L, ↑(List.length L)) ((0 : Int), (0 : Int))) && (bif Nat.beq (Prod.fst (ix2_g (L, ↑(List.length L)) ((0 : Int), (0 : Int)))) (0 : Nat) then true else (Nat.beq (Prod.fst (ix2_g (L, ↑(List.length L)) ((0 : Int), (0 : Int)))) (1 : Nat))))) (.ret (.one (.v false (.int .i64 (bif Nat.beq (Prod.fst (ix2_g (L, ↑(List.length L)) ((0 : Int), (0 : Int)))) (0 : Nat) then Prod.fst (Prod.snd (ix2_g (L, ↑(List.length L)) ((0 : Int), (0 : Int)))) else (-1 : Int)))))) (.bad 116) := by kernel_rfl
theorem ixf2_val (L : (Ty.list (.prod (.prod (.int .i64) (.prod (.int .i64) (.prod (.int .i64) (.int .i64)))) (.prod (.int .i64) (.prod (.int .i64) (.prod (.int .i64) (.int .i64)))))).den) (hc : (decide (L.length ≤ 40)) = true) : (.br (((ix2_cond (L, ↑(List.length L)) ((0 : Int), (0 : Int))) && (bif Nat.beq (Prod.fst (ix2_g (L, ↑(List.length L)) ((0 : Int), (0 : Int)))) (0 : Nat) then true else (Nat.beq (Prod.fst (ix2_g (L, ↑(List.length L)) ((0 : Int), (0 : Int)))) (1 : Nat))))) (.ret (.one (.v false (.int .i64 (bif Nat.beq (Prod.fst (ix2_g (L, ↑(List.length L)) ((0 : Int), (0 : Int)))) (0 : Nat) then Prod.fst (Prod.snd (ix2_g (L, ↑(List.length L)) ((0 : Int), (0 : Int)))) else (-1 : Int)))))) (.bad 116) : Tr AV).val = some (.one (.v false (.int .i64 (ixOf (fun b : Bk => !sndB b) L)))) := by
  have h := of_decide_eq_true hc
  obtain ⟨t, h1, h2, h3⟩ := ix2_run h
  have a1 : ix2_cond (L, (L.length : Int)) ((0 : Int), (0 : Int)) = true := h1
  have a2 : ix2_g (L, (L.length : Int)) ((0 : Int), (0 : Int)) = t := h2
  obtain ⟨k, x, y⟩ := t
  simp only [a1, a2, Tr.val]
  rcases h3 with ⟨e1, e2⟩ | ⟨e1, e2⟩ <;> (dsimp only at e1 e2; subst e1; rw [← e2]) <;> rfl
noncomputable def ixf2_g : List AV → Option (Tr AV)
  | [.one (.d _ _ (.prod (.prod (.int .i64) (.prod (.int .i64) (.prod (.int .i64) (.int .i64)))) (.prod (.int .i64) (.prod (.int .i64) (.prod (.int .i64) (.int .i64))))) L), .one (.fn 44 [])] => some (.br (decide (L.length ≤ 40)) (.ret (.one (.v false (.int .i64 (ixOf (fun b : Bk => !sndB b) L))))) (.bad 900))
  | _ => none
set_option maxHeartbeats 4000000 in
theorem ixf2_ok : FunOK Try.prog 62 ixf2_g := by
  refine fun_ok (by kernel_rfl) (abD_S61_ok) (abC_L64_ok) 9 (On := (opens [])) (fun args t h => ?_)
  unfold ixf2_g at h
  split at h
  · rename_i _ _ L
    simp only [Option.some.injEq] at h
    subst h
    refine ⟨[.one (.d false false (.prod (.prod (.int .i64) (.prod (.int .i64) (.prod (.int .i64) (.int .i64)))) (.prod (.int .i64) (.prod (.int .i64) (.prod (.int .i64) (.int .i64))))) L), .one (.fn 44 [])], rfl, fun fr w us h => h, fun r hr => ?_⟩
    obtain ⟨hc, hr⟩ := br_bad hr
    simp only [Tr.val, Option.some.injEq] at hr
    subst hr
    rw [ixf2_tree]
    exact ixf2_val L hc
  · cases h
noncomputable def abD_S62 : Sums := addS 62 ixf2_g abD_S61
theorem abD_S62_ok : SumOK Try.prog abD_S62 := addS_ok (ixf2_ok) (abD_S61_ok)
def mnF (l : List Int) : Nat → Int
  | 0 => l.getD 0 0
  | j + 1 => min (mnF l j) (l.getD (j + 1) 0)
def minL (l : List Int) : Int := mnF l (l.length - 1)
theorem mnF_neg (l : List Int) : ∀ j, mnF l j < 0 ↔ ∃ i, i ≤ j ∧ l.getD i 0 < 0
  | 0 => by simp [mnF]
  | j + 1 => by
    have ih := mnF_neg l j
    simp only [mnF]
    constructor
    · intro h
      by_cases h2 : mnF l j < 0
      · obtain ⟨i, h3, h4⟩ := ih.1 h2; exact ⟨i, by omega, h4⟩
      · exact ⟨j + 1, Nat.le_refl _, by omega⟩
    · rintro ⟨i, h1, h2⟩
      by_cases e : i = j + 1
      · subst e; omega
      · have := ih.2 ⟨i, by omega, h2⟩; omega
set_option maxRecDepth 100000 in
theorem sminc_tree (l : (Ty.list (.int .i64)).den) : evalF Try.prog abD_S62 (opens []) abC_L64 9 47 [.one (.d false false (.int .i64) l)] = .br ((!(decide (↑(List.length l) < (1 : Int))) && ((decide ((0 : Int) ≤ (0 : Int)) && decide ((0 : Int) < ↑(List.length l))) && ((smin_cond (l, (0 : Int)) (el_i l (0 : Int), (1 : Int))) && (Nat.beq (Prod.fst (smin_g (l, (0 : Int)) (el_i l (0 : Int), (1 : Int)))) (0 : Nat)))))) (.ret (.one (.v false (.int .i64 (Prod.fst (Prod.snd (smin_g (l, (0 : Int)) (el_i l (0 : Int), (1 : Int))))))))) (.bad 116) := by kernel_rfl
theorem sminc_val (l : (Ty.list (.int .i64)).den) (hc : (decide (1 ≤ l.length) && decide (l.length ≤ 100)) = true) : (.br ((!(decide (↑(List.length l) < (1 : Int))) && ((decide ((0 : Int) ≤ (0 : Int)) && decide ((0 : Int) < ↑(List.length l))) && ((smin_cond (l, (0 : Int)) (el_i l (0 : Int), (1 : Int))) && (Nat.beq (Prod.fst (smin_g (l, (0 : Int)) (el_i l (0 : Int), (1 : Int)))) (0 : Nat)))))) (.ret (.one (.v false (.int .i64 (Prod.fst (Prod.snd (smin_g (l, (0 : Int)) (el_i l (0 : Int), (1 : Int))))))))) (.bad 116) : Tr AV).val = some (.one (.v false (.int .i64 (minL l)))) := by
  simp only [Bool.and_eq_true, decide_eq_true_eq] at hc
  obtain ⟨h1, h2⟩ := hc
  have R : smin_cond (l, (0 : Int)) (l.getD 0 0, (1 : Int)) = true ∧ smin_g (l, (0 : Int)) (l.getD 0 0, (1 : Int)) = (0, (minL l, (l.length : Int))) := by
    have := run_steps (step := smin_step (l, (0 : Int))) (St := fun j => (mnF l j, (j : Int) + 1)) (n := l.length - 1) (t := (0, (minL l, (l.length : Int)))) (by
      have e : ((l.length - 1 : Nat) : Int) + 1 = l.length := by omega
      rw [e]
      simp only [smin_step, Tr.val, Int.lt_irrefl, decide_false, cond_false]
      rfl) (l.length - 1) 0 (Nat.zero_add _) (fun j _ hj => by
      have c1 : decide ((j : Int) + 1 < (l.length : Int)) = true := by simp; omega
      have c2 : decide ((0 : Int) ≤ (j : Int) + 1) = true := by simp; omega
      have w1 : IntKind.wrap IntKind.i64 ((j : Int) + 1 + 1) = ((j + 1 : Nat) : Int) + 1 := by rw [wid (by omega) (by omega)]; omega
      have g1 : el_i l ((j : Int) + 1) = l.getD (j + 1) 0 := elm_nat (.int .i64) l (j + 1)
      simp only [smin_step, Tr.val, c1, c2, w1, g1, Bool.and_self, cond_true, ite_min]
      rfl)
    exact this
  have c0 : decide ((l.length : Int) < 1) = false := by simp; omega
  have c3 : (decide ((0 : Int) ≤ (0 : Int)) && decide ((0 : Int) < (l.length : Int))) = true := by simp; omega
  have z : el_i l (0 : Int) = l.getD 0 0 := rfl
  have z0 : Nat.beq 0 0 = true := rfl
  simp only [c0, c3, z, R.1, R.2, z0, Bool.not_false, Bool.and_self, Tr.val, cond_true]
noncomputable def sminc_g : List AV → Option (Tr AV)
  | [.one (.d _ _ (.int .i64) l)] => some (.br (decide (1 ≤ l.length) && decide (l.length ≤ 100)) (.ret (.one (.v false (.int .i64 (minL l))))) (.bad 900))
  | _ => none
set_option maxHeartbeats 4000000 in
theorem sminc_ok : FunOK Try.prog 47 sminc_g := by
  refine fun_ok (by kernel_rfl) (abD_S62_ok) (abC_L64_ok) 9 (On := (opens [])) (fun args t h => ?_)
  unfold sminc_g at h
  split at h
  · rename_i _ _ l
    simp only [Option.some.injEq] at h
    subst h
    refine ⟨[.one (.d false false (.int .i64) l)], rfl, fun fr w us h => h, fun r hr => ?_⟩
    obtain ⟨hc, hr⟩ := br_bad hr
    simp only [Tr.val, Option.some.injEq] at hr
    subst hr
    rw [sminc_tree]
    exact sminc_val l hc
  · cases h
noncomputable def abD_S63 : Sums := addS 47 sminc_g abD_S62
theorem abD_S63_ok : SumOK Try.prog abD_S63 := addS_ok (sminc_ok) (abD_S62_ok)
end Go.Proofs.Ytaidlflnkdamkaa
