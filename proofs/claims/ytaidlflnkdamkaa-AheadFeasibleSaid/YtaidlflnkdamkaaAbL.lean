/-
  Layer 44: the document's greatest numbers and choices.
-/
import Derived.Test.YtaidlflnkdamkaaAbK
namespace Go.Proofs.Ytaidlflnkdamkaa
open Go
theorem run_val {V : Type} {step : V → Tr (V ⊕ (Nat × V))} {Inv : V → Prop} {μ : V → Nat} {Q : Nat × V → Prop} (h : ∀ s, Inv s → ∃ x, (step s).val = some x ∧ (match x with | .inl s' => Inv s' ∧ μ s' < μ s | .inr t => Q t)) : ∀ (k : Nat) (v : V), μ v < k → Inv v → runC step v = true ∧ Q (runG step v)
  | 0, _, hk, _ => absurd hk (Nat.not_lt_zero _)
  | k + 1, v, hk, hv => by
    obtain ⟨x, hx, hq⟩ := h v hv
    cases x with
    | inl s =>
      obtain ⟨h1, h2⟩ := run_val h k s (by have := hq.2; omega) hq.1
      obtain ⟨h3, h4⟩ := run_next hx h1
      exact ⟨h3, by rw [h4]; exact h2⟩
    | inr t =>
      obtain ⟨h3, h4⟩ := run_end hx
      exact ⟨h3, by rw [h4]; exact hq⟩
section
variable {L : BkL} {C : List Int} {e : Int}
theorem gre0_run (h : ChOk L C e) : gre0_cond (L, C, (L.length : Int)) ((1 : Int), [e]) = true ∧ gre0_g (L, C, (L.length : Int)) ((1 : Int), [e]) = (0, ((L.length : Int), tab L.length (mO L C e L.length))) := by
  have n1 := h.n1
  have n40 := h.n40
  have hlen := h.len
  have st : [e] = tab (0 + 1) (mO L C e L.length) := rfl
  have := run_steps (step := gre0_step (L, C, (L.length : Int))) (St := fun j => ((j : Int) + 1, tab (j + 1) (mO L C e L.length))) (n := L.length - 1) (t := (0, ((L.length : Int), tab L.length (mO L C e L.length)))) (by
    have e1 : ((L.length - 1 : Nat) : Int) + 1 = L.length := by omega
    have e2 : L.length - 1 + 1 = L.length := by omega
    rw [e1, e2]
    simp only [gre0_step, Tr.val, Int.lt_irrefl, decide_false, cond_false]) (L.length - 1) 0 (Nat.zero_add _) (fun j _ hj => by
    have c1 : decide ((j : Int) + 1 < (L.length : Int)) = true := decide_eq_true (by omega)
    have c2 : decide ((0 : Int) ≤ (j : Int)) = true := decide_eq_true (by omega)
    have c3 : decide ((0 : Int) ≤ (j : Int) + 1) = true := decide_eq_true (by omega)
    have c4 : decide ((j : Int) < (L.length : Int)) = true := decide_eq_true (by omega)
    have c5 : decide ((j : Int) + 1 < (C.length : Int)) = true := decide_eq_true (by omega)
    have c6 : (decide ((j + 1 + 1) * 8 ≤ maxNew) && decide (j + 1 + 1 ≤ maxLen)) = true := by simp only [Bool.and_eq_true, decide_eq_true_eq]; exact ⟨by simp [maxNew]; omega, by simp [maxLen]; omega⟩
    have w1 : IntKind.wrap IntKind.i64 ((j : Int) + 1 - 1) = (j : Int) := by rw [wid (by omega) (by omega)]; omega
    have w2 : IntKind.wrap IntKind.i64 ((j : Int) + 1 + 1) = ((j + 1 : Nat) : Int) + 1 := by rw [wid (by omega) (by omega)]; omega
    simp only [gre0_step, Tr.val, c1, c2, c3, c4, c5, c6, w1, w2, tab_length, Bool.and_self, cond_true, ite_min]
    refine congrArg (fun x => some (Sum.inl (((j + 1 : Nat) : Int) + 1, x))) ?_
    rw [tab_succ (j + 1)]
    refine congrArg (fun x => tab (j + 1) (mO L C e L.length) ++ [x]) ?_
    unfold mO
    rw [if_neg (by omega), if_pos (by omega), show j + 1 - 1 = j by omega]
    show min (min (cI C (j + 1)) (crB (bL L j))) (crB (bL L (j + 1))) = _
    rfl)
  exact this
/-- Numbers below the bounds, neighbors within the reach. -/
def Below (L : BkL) (C : List Int) (e : Int) (t : Nat → Int) : Prop := (∀ i, i ≤ L.length → t i ≤ mO L C e L.length i) ∧ (∀ i, i < L.length → t i ≤ t (i + 1) + rO L i) ∧ (∀ i, i < L.length → t (i + 1) ≤ t i + rO L i)
structure GI (L : BkL) (C : List Int) (e : Int) (f : Nat → Int) : Prop where
  z : f 0 = e
  n : f L.length = 0
  m : ∀ i, i ≤ L.length → f i ≤ mO L C e L.length i
  lo : ∀ i, i ≤ L.length → -9223372036854775808 ≤ f i
  up : ∀ t, Below L C e t → ∀ i, i ≤ L.length → t i ≤ f i
def nb (L : BkL) (f : Nat → Int) (j : Nat) : Prop := f j ≤ f (j - 1) + rO L (j - 1) ∧ f j ≤ f (j + 1) + rO L j
theorem gre2_run (hk : ChOk L C e) {f0 : Nat → Int} (h0 : GI L C e f0) : gre2_cond (L, (L.length : Int)) (false, (1 : Int), tab (L.length + 1) f0) = true ∧ ∃ b f, gre2_g (L, (L.length : Int)) (false, (1 : Int), tab (L.length + 1) f0) = (0, (b, (L.length : Int), tab (L.length + 1) f)) ∧ GI L C e f ∧ (∀ i, i ≤ L.length → f i ≤ f0 i) ∧ (b = false → (∀ i, i ≤ L.length → f i = f0 i) ∧ ∀ j, 0 < j → j < L.length → nb L f j) ∧ (b = true → ∃ i, i ≤ L.length ∧ f i < f0 i) := by
  have n1 := hk.n1
  have n40 := hk.n40
  have R := run_val (step := gre2_step (L, (L.length : Int))) (Inv := fun v => ∃ (i : Nat) (f : Nat → Int), v = (v.1, (i : Int), tab (L.length + 1) f) ∧ 1 ≤ i ∧ i ≤ L.length ∧ GI L C e f ∧ (∀ i, i ≤ L.length → f i ≤ f0 i) ∧ (v.1 = false → (∀ i, i ≤ L.length → f i = f0 i) ∧ ∀ j, 0 < j → j < i → nb L f j) ∧ (v.1 = true → ∃ i, i ≤ L.length ∧ f i < f0 i)) (μ := fun v => (L.length : Int).toNat - v.2.1.toNat)
    (Q := fun t => ∃ b f, t = (0, (b, (L.length : Int), tab (L.length + 1) f)) ∧ GI L C e f ∧ (∀ i, i ≤ L.length → f i ≤ f0 i) ∧ (b = false → (∀ i, i ≤ L.length → f i = f0 i) ∧ ∀ j, 0 < j → j < L.length → nb L f j) ∧ (b = true → ∃ i, i ≤ L.length ∧ f i < f0 i)) ?_ _ (false, (1 : Int), tab (L.length + 1) f0) (Nat.lt_succ_self _) ⟨1, f0, rfl, by omega, by omega, h0, fun i _ => Int.le_refl _, fun _ => ⟨fun _ _ => rfl, fun j h1 h2 => by omega⟩, fun h => by cases h⟩
  · exact R
  · rintro ⟨b, q, l⟩ ⟨i, f, hv, hi1, hi2, hG, hle, hbF, hbT⟩
    simp only [Prod.mk.injEq, true_and] at hv
    obtain ⟨rfl, rfl⟩ := hv
    dsimp only at hbF hbT
    by_cases hin : i < L.length
    · obtain ⟨j, rfl⟩ : ∃ j, i = j + 1 := ⟨i - 1, by omega⟩
      have c1 : decide (((j + 1 : Nat) : Int) < (L.length : Int)) = true := decide_eq_true (by omega)
      have w1 : IntKind.wrap IntKind.i64 (((j + 1 : Nat) : Int) - 1) = (j : Int) := by rw [wid (by omega) (by omega)]; omega
      have w2 : IntKind.wrap IntKind.i64 (((j + 1 : Nat) : Int) + 1) = ((j + 1 + 1 : Nat) : Int) := by rw [wid (by omega) (by omega)]; omega
      have c2 : decide ((0 : Int) ≤ (j : Int)) = true := decide_eq_true (by omega)
      have c3 : decide ((j : Int) < ((L.length + 1 : Nat) : Int)) = true := decide_eq_true (by omega)
      have c4 : decide (j < L.length + 1) = true := decide_eq_true (by omega)
      have c5 : decide ((j : Int) < (L.length : Int)) = true := decide_eq_true (by omega)
      have c6 : decide ((0 : Int) ≤ ((j + 1 + 1 : Nat) : Int)) = true := decide_eq_true (by omega)
      have c7 : decide (((j + 1 + 1 : Nat) : Int) < ((L.length + 1 : Nat) : Int)) = true := decide_eq_true (by omega)
      have c8 : decide (j + 1 + 1 < L.length + 1) = true := decide_eq_true (by omega)
      have c9 : decide ((0 : Int) ≤ ((j + 1 : Nat) : Int)) = true := decide_eq_true (by omega)
      have c10 : decide (((j + 1 : Nat) : Int) < ((L.length + 1 : Nat) : Int)) = true := decide_eq_true (by omega)
      have c11 : decide (j + 1 < L.length + 1) = true := decide_eq_true (by omega)
      have g0 := eli_tab (n := L.length + 1) (i := j) (by omega) f
      have g1 := eli_tab (n := L.length + 1) (i := j + 1) (by omega) f
      have g2 := eli_tab (n := L.length + 1) (i := j + 1 + 1) (by omega) f
      have r0 : reach (Prod.fst (Prod.fst (el_iiiiiiii L (j : Int)))) (Prod.fst (Prod.snd (Prod.fst (el_iiiiiiii L (j : Int))))) (Prod.fst (Prod.snd (Prod.snd (Prod.fst (el_iiiiiiii L (j : Int)))))) (Prod.snd (Prod.snd (Prod.snd (Prod.fst (el_iiiiiiii L (j : Int)))))) (Prod.fst (Prod.snd (el_iiiiiiii L (j : Int)))) = rO L j := rfl
      have r1 : reach (Prod.fst (Prod.fst (el_iiiiiiii L ((j + 1 : Nat) : Int)))) (Prod.fst (Prod.snd (Prod.fst (el_iiiiiiii L ((j + 1 : Nat) : Int))))) (Prod.fst (Prod.snd (Prod.snd (Prod.fst (el_iiiiiiii L ((j + 1 : Nat) : Int)))))) (Prod.snd (Prod.snd (Prod.snd (Prod.fst (el_iiiiiiii L ((j + 1 : Nat) : Int)))))) (Prod.fst (Prod.snd (el_iiiiiiii L ((j + 1 : Nat) : Int)))) = rO L (j + 1) := rfl
      have R0 := hk.r (i := j) (by omega)
      have R1 := hk.r (i := j + 1) (by omega)
      have M0 := hk.m j
      have M2 := hk.m (j + 1 + 1)
      have b0 := hG.m j (by omega); have l0 := hG.lo j (by omega)
      have b1 := hG.m (j + 1) (by omega); have l1 := hG.lo (j + 1) (by omega)
      have b2 := hG.m (j + 1 + 1) (by omega); have l2 := hG.lo (j + 1 + 1) (by omega)
      have w3 : IntKind.wrap IntKind.i64 (f j + rO L j) = f j + rO L j := wid (by omega) (by omega)
      have w4 : IntKind.wrap IntKind.i64 (f (j + 1 + 1) + rO L (j + 1)) = f (j + 1 + 1) + rO L (j + 1) := wid (by omega) (by omega)
      simp only [gre2_step, Tr.val, tab_length, c1, c2, c3, c4, c5, c6, c7, c8, c9, c10, c11, w1, w2, g0, g1, g2, r0, r1, w3, w4, Int.toNat_natCast, ite_min, Bool.and_self, cond_true, tab_set]
      by_cases hgt : f (j + 1) > min (f j + rO L j) (f (j + 1 + 1) + rO L (j + 1))
      · rw [decide_eq_true hgt]
        refine ⟨_, rfl, ?_⟩
        dsimp only
        refine ⟨⟨j + 1 + 1, _, rfl, by omega, by omega, ⟨?_, ?_, fun i hi => ?_, fun i hi => ?_, fun t ht i hi => ?_⟩, fun i hi => ?_, fun h => (by cases h), fun _ => ⟨j + 1, by omega, ?_⟩⟩, ?_⟩
        · (try dsimp only); rw [if_neg (by omega)]; exact hG.z
        · (try dsimp only); rw [if_neg (by omega)]; exact hG.n
        · (try dsimp only)
          by_cases hij : i = j + 1
          · rw [if_pos hij]; subst hij; omega
          · rw [if_neg hij]; exact hG.m i hi
        · (try dsimp only)
          by_cases hij : i = j + 1
          · rw [if_pos hij]; omega
          · rw [if_neg hij]; exact hG.lo i hi
        · (try dsimp only)
          by_cases hij : i = j + 1
          · rw [if_pos hij]; subst hij
            have t0 := hG.up t ht j (by omega)
            have t2 := hG.up t ht (j + 1 + 1) (by omega)
            have a := ht.2.2 j (by omega)
            have b := ht.2.1 (j + 1) (by omega)
            omega
          · rw [if_neg hij]; exact hG.up t ht i hi
        · (try dsimp only)
          by_cases hij : i = j + 1
          · rw [if_pos hij]; subst hij; have := hle (j + 1) (by omega); omega
          · rw [if_neg hij]; exact hle i hi
        · (try dsimp only); rw [if_pos rfl]; have := hle (j + 1) (by omega); omega
        · (try dsimp only); omega
      · rw [decide_eq_false hgt]
        refine ⟨_, rfl, ?_⟩
        dsimp only
        refine ⟨⟨j + 1 + 1, f, rfl, by omega, by omega, hG, hle, fun h => ⟨(hbF h).1, fun k h1 h2 => ?_⟩, hbT⟩, ?_⟩
        · by_cases hkj : k = j + 1
          · subst hkj
            unfold nb
            rw [show j + 1 - 1 = j by omega]
            omega
          · exact (hbF h).2 k h1 (by omega)
        · omega
    · have : i = L.length := by omega
      subst this
      refine ⟨.inr (0, (b, (L.length : Int), tab (L.length + 1) f)), ?_, ⟨b, f, rfl, hG, hle, hbF, hbT⟩⟩
      simp only [gre2_step, Tr.val, Int.lt_irrefl, decide_false, cond_false]
/-- How far a list is above the least number. -/
def sumL (f : Nat → Int) : Nat → Nat
  | 0 => 0
  | k + 1 => sumL f k + (f k + 9223372036854775808).toNat
theorem sumL_le {f g : Nat → Int} : ∀ k, (∀ i, i < k → f i ≤ g i) → sumL f k ≤ sumL g k
  | 0, _ => Nat.le_refl _
  | k + 1, h => by
    have a := sumL_le k fun i hi => h i (by omega)
    have b := h k (by omega)
    simp only [sumL]; omega
theorem sumL_lt {f g : Nat → Int} : ∀ k, (∀ i, i < k → f i ≤ g i) → (∃ i, i < k ∧ f i < g i ∧ -9223372036854775808 ≤ f i) → sumL f k < sumL g k
  | 0, _, ⟨i, hi, _⟩ => by omega
  | k + 1, h, ⟨i, hi, h1, h2⟩ => by
    have b := h k (by omega)
    simp only [sumL]
    by_cases e : i = k
    · subst e
      have a := sumL_le i fun j hj => h j (by omega)
      omega
    · have a := sumL_lt k (fun j hj => h j (by omega)) ⟨i, by omega, h1, h2⟩
      omega
theorem gre1_run (hk : ChOk L C e) : gre1_cond (L, (L.length : Int)) (true, tab (L.length + 1) (mO L C e L.length)) = true ∧ ∃ G b, gre1_g (L, (L.length : Int)) (true, tab (L.length + 1) (mO L C e L.length)) = (0, (b, tab (L.length + 1) G)) ∧ GI L C e G ∧ ∀ j, 0 < j → j < L.length → nb L G j := by
  have n1 := hk.n1
  have G0 : GI L C e (mO L C e L.length) := ⟨rfl, by unfold mO; rw [if_neg (by omega), if_neg (by omega)], fun i _ => Int.le_refl _, fun i _ => (hk.m i).1, fun t ht i hi => ht.1 i hi⟩
  have R := run_val (step := gre1_step (L, (L.length : Int))) (Inv := fun v => ∃ f, v.2 = tab (L.length + 1) f ∧ GI L C e f ∧ (v.1 = false → ∀ j, 0 < j → j < L.length → nb L f j)) (μ := fun v => sumL (fun i => v.2.getD i 0) (L.length + 1) + (cond v.1 1 0))
    (Q := fun t => ∃ G b, t = (0, (b, tab (L.length + 1) G)) ∧ GI L C e G ∧ ∀ j, 0 < j → j < L.length → nb L G j) ?_ _ (true, tab (L.length + 1) (mO L C e L.length)) (Nat.lt_succ_self _) ⟨_, rfl, G0, fun h => by cases h⟩
  · exact R
  · rintro ⟨b, l⟩ ⟨f, hl, hG, hb⟩
    dsimp only at hl hb
    subst hl
    cases b with
    | false => exact ⟨.inr (0, (false, tab (L.length + 1) f)), rfl, f, false, rfl, hG, hb rfl⟩
    | true =>
      obtain ⟨r1, b', f', r2, hG', hle, hF, hT⟩ := gre2_run hk hG
      have z0 : Nat.beq 0 0 = true := rfl
      refine ⟨.inl (b', tab (L.length + 1) f'), by simp only [gre1_step, Tr.val, r1, r2, z0, cond_true], ⟨f', rfl, hG', fun h => (hF h).2⟩, ?_⟩
      have e1 : ∀ g : Nat → Int, sumL (fun i => (tab (L.length + 1) g).getD i 0) (L.length + 1) = sumL g (L.length + 1) := fun g => by
        have : ∀ k, k ≤ L.length + 1 → sumL (fun i => (tab (L.length + 1) g).getD i 0) k = sumL g k := fun k => by
          induction k with
          | zero => intro _; rfl
          | succ k ih => intro hk'; simp only [sumL]; rw [ih (by omega), tab_getD _ (by omega)]
        exact this _ (Nat.le_refl _)
      dsimp only
      rw [e1, e1]
      cases b' with
      | true =>
        obtain ⟨i, hi, hlt⟩ := hT rfl
        have := sumL_lt (L.length + 1) (fun i hi => hle i (by omega)) ⟨i, by omega, hlt, hG'.lo i hi⟩
        simp only [cond_true]; omega
      | false =>
        have := sumL_le (L.length + 1) (f := f') (g := f) (fun i hi => hle i (by omega))
        simp only [cond_true, cond_false]; omega
end
end Go.Proofs.Ytaidlflnkdamkaa
