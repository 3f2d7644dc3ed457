/-
  What rounds come to, if they come to anything. No program is named here.
-/
import Derived.Test.YtacgchandefjgaaFvZ
import Derived.Test.YtacgchandefjgaaRd
namespace Go.Proofs.Ytacgchandefjgaa
open Go
theorem loopN_more {σ τ : Type} {step : σ → Tr (σ ⊕ τ)} : ∀ {n : Nat} {s : σ} {t : τ}, loopN step n s = some t → ∀ m, n ≤ m → loopN step m s = some t
  | 0, _, _, h, _, _ => by cases h
  | n + 1, s, t, h, 0, hm => absurd hm (Nat.not_succ_le_zero _)
  | n + 1, s, t, h, m + 1, hm => by
    simp only [loopN] at h ⊢
    cases hs : (step s).val with
    | none => rw [hs] at h; cases h
    | some x =>
      rw [hs] at h
      cases x with
      | inl s' => exact loopN_more h m (Nat.le_of_succ_le_succ hm)
      | inr t' => exact h
theorem loopN_one {σ τ : Type} {step : σ → Tr (σ ⊕ τ)} {n m : Nat} {s : σ} {t t' : τ} (h : loopN step n s = some t) (h' : loopN step m s = some t') : t = t' := by
  have a := loopN_more h (max n m) (Nat.le_max_left _ _)
  have b := loopN_more h' (max n m) (Nat.le_max_right _ _)
  rw [a] at b
  exact Option.some.inj b
section
open Classical
variable {V : Type}
noncomputable def runG (step : V → Tr (V ⊕ (Nat × V))) (v : V) : Nat × V := if h : ∃ n t, loopN step n v = some t then h.choose_spec.choose else (0, v)
noncomputable def runF (step : V → Tr (V ⊕ (Nat × V))) (v : V) : Nat := if h : ∃ n t, loopN step n v = some t then h.choose else 0
noncomputable def runC (step : V → Tr (V ⊕ (Nat × V))) (v : V) : Bool := decide (∃ n t, loopN step n v = some t)
theorem run_hg {step : V → Tr (V ⊕ (Nat × V))} {v : V} (h : runC step v = true) : loopN step (runF step v) v = some (runG step v) := by
  have h := of_decide_eq_true h
  unfold runF runG
  rw [dif_pos h, dif_pos h]
  exact h.choose_spec.choose_spec
theorem run_of {step : V → Tr (V ⊕ (Nat × V))} {v : V} {n : Nat} {t : Nat × V} (h : loopN step n v = some t) : runC step v = true ∧ runG step v = t := by
  have hc : runC step v = true := decide_eq_true ⟨n, t, h⟩
  exact ⟨hc, loopN_one (run_hg hc) h⟩
theorem run_inv {step : V → Tr (V ⊕ (Nat × V))} {Inv : V → Prop} {μ : V → Nat} {Q : Nat × V → Prop} (h : ∀ s, Inv s → (step s).all (fun x => match x with | .inl s' => Inv s' ∧ μ s' < μ s | .inr t => Q t)) (v : V) (hv : Inv v) : runC step v = true ∧ Q (runG step v) := by
  obtain ⟨t, h1, h2⟩ := loopN_inv (Inv := Inv) (μ := μ) (Q := Q) (fun s hs => (h s hs).mono fun x hx => by cases x <;> exact hx) (μ v + 1) v hv (Nat.lt_succ_self _)
  obtain ⟨a, b⟩ := run_of h1
  exact ⟨a, b ▸ h2⟩
/-- One round, then the rest. -/
theorem run_next {step : V → Tr (V ⊕ (Nat × V))} {v s : V} (h : (step v).val = some (.inl s)) (hc : runC step s = true) : runC step v = true ∧ runG step v = runG step s := by
  refine run_of (n := runF step s + 1) ?_
  simp only [loopN, h]
  exact run_hg hc
theorem run_end {step : V → Tr (V ⊕ (Nat × V))} {v : V} {t : Nat × V} (h : (step v).val = some (.inr t)) : runC step v = true ∧ runG step v = t :=
  run_of (n := 1) (by simp only [loopN, h])
end
end Go.Proofs.Ytacgchandefjgaa
