/-
  Loops that look for the first element that is not as it should be; loops that map, fold and filter. No program is named here.
-/
import Derived.Test.YtacgchandefjgaaPl
namespace Go.Proofs.Ytacgchandefjgaa
open Go
theorem run_scanI {V : Type} {step : V → Tr (V ⊕ (Nat × V))} {St : Nat → V} {Lv : Nat → Nat × V} {t : Nat × V} {n : Nat} {p : Nat → Bool}
    (h : ∀ i, i < n → (step (St i)).val = some (bif p i then .inl (St (i + 1)) else .inr (Lv i))) (he : (step (St n)).val = some (.inr t)) :
    ∀ k i, i + k = n → runC step (St i) = true ∧ (((∀ j, i ≤ j → j < n → p j = true) ∧ runG step (St i) = t) ∨ ∃ j, i ≤ j ∧ j < n ∧ p j = false ∧ (∀ q, i ≤ q → q < j → p q = true) ∧ runG step (St i) = Lv j)
  | 0, i, hi => by
    have : i = n := by omega
    subst this
    obtain ⟨h1, h2⟩ := run_end he
    exact ⟨h1, .inl ⟨fun j a b => absurd b (by omega), h2⟩⟩
  | k + 1, i, hi => by
    have hl := h i (by omega)
    cases hp : p i with
    | true =>
      rw [hp] at hl
      obtain ⟨h1, h2⟩ := run_scanI h he k (i + 1) (by omega)
      obtain ⟨h3, h4⟩ := run_next hl h1
      refine ⟨h3, ?_⟩
      rw [h4]
      rcases h2 with ⟨h5, h6⟩ | ⟨j, h5, h6, h7, h8, h9⟩
      · refine .inl ⟨fun j a b => ?_, h6⟩
        by_cases e : j = i
        · subst e; exact hp
        · exact h5 j (by omega) b
      · refine .inr ⟨j, by omega, h6, h7, fun q a b => ?_, h9⟩
        by_cases e : q = i
        · subst e; exact hp
        · exact h8 q (by omega) b
    | false =>
      rw [hp] at hl
      obtain ⟨h1, h2⟩ := run_end hl
      exact ⟨h1, .inr ⟨i, Nat.le_refl _, by omega, hp, fun q a b => absurd b (by omega), h2⟩⟩
/-- All numbers below n are as they should be, or the first that is not. -/
theorem run_scan {V : Type} {step : V → Tr (V ⊕ (Nat × V))} {St : Nat → V} {Lv : Nat → Nat × V} {t : Nat × V} {n : Nat} {p : Nat → Bool}
    (h : ∀ i, i < n → (step (St i)).val = some (bif p i then .inl (St (i + 1)) else .inr (Lv i))) (he : (step (St n)).val = some (.inr t)) :
    runC step (St 0) = true ∧ (((∀ j, j < n → p j = true) ∧ runG step (St 0) = t) ∨ ∃ j, j < n ∧ p j = false ∧ (∀ q, q < j → p q = true) ∧ runG step (St 0) = Lv j) := by
  obtain ⟨h1, h2⟩ := run_scanI h he n 0 (by omega)
  refine ⟨h1, ?_⟩
  rcases h2 with ⟨h5, h6⟩ | ⟨j, h5, h6, h7, h8, h9⟩
  · exact .inl ⟨fun j hj => h5 j (Nat.zero_le _) hj, h6⟩
  · exact .inr ⟨j, h6, h7, fun q hq => h8 q (Nat.zero_le _) hq, h9⟩
theorem elm_lt {t : Ty} {l : List t.den} {i : Nat} (h : i < l.length) : elm t l (i : Int) = l[i] := by
  rw [elm_nat, List.getD, List.getElem?_eq_getElem h]
  rfl
/-- All elements of a list are as they should be, or not. -/
theorem run_all {V α : Type} {step : V → Tr (V ⊕ (Nat × V))} {St : Nat → V} {Lv : Nat → Nat × V} {t : Nat × V} {l : List α} {p : α → Bool}
    (h : ∀ i (hi : i < l.length), (step (St i)).val = some (bif p l[i] then .inl (St (i + 1)) else .inr (Lv i))) (he : (step (St l.length)).val = some (.inr t)) :
    runC step (St 0) = true ∧ ((l.all p = true ∧ runG step (St 0) = t) ∨ (l.all p = false ∧ ∃ j, ∃ hj : j < l.length, p l[j] = false ∧ (∀ q (hq : q < j), p (l[q]'(by omega)) = true) ∧ runG step (St 0) = Lv j)) := by
  obtain ⟨h1, h2⟩ := run_scan (step := step) (St := St) (Lv := Lv) (t := t) (n := l.length) (p := fun i => if hi : i < l.length then p l[i] else true) (fun i hi => by
    simp only [hi, dif_pos]
    exact h i hi) he
  refine ⟨h1, ?_⟩
  rcases h2 with ⟨h5, h6⟩ | ⟨j, h6, h7, h8, h9⟩
  · refine .inl ⟨?_, h6⟩
    rw [List.all_eq_true]
    intro x hx
    obtain ⟨j, hj, rfl⟩ := List.getElem_of_mem hx
    have := h5 j hj
    simpa [hj] using this
  · have hb : p l[j] = false := by simpa [h6] using h7
    refine .inr ⟨?_, j, h6, hb, fun q hq => ?_, h9⟩
    · rw [List.all_eq_false]
      exact ⟨l[j], List.getElem_mem h6, by simp [hb]⟩
    · have := h8 q hq
      have hq' : q < l.length := by omega
      simpa [hq'] using this
theorem wi1 {i n : Nat} (h : i < n) (hn : (n : Int) ≤ 9223372036854775806) : IntKind.wrap IntKind.i64 ((i : Int) + (1 : Int)) = ((i + 1 : Nat) : Int) := by
  rw [wid (by omega) (by omega)]; push_cast; rfl
theorem lt_t {i n : Nat} (h : i < n) : decide ((i : Int) < (n : Int)) = true := decide_eq_true (by omega)
theorem nn_t (i : Nat) : decide ((0 : Int) ≤ (i : Int)) = true := decide_eq_true (by omega)
/-- Equality of lists by a scan. -/
theorem list_eq_of {α : Type} {l m : List α} (hl : l.length = m.length) (h : ∀ i, (h1 : i < l.length) → (h2 : i < m.length) → l[i] = m[i]) : l = m := List.ext_getElem hl h
theorem run_val {V : Type} {step : V → Tr (V ⊕ (Nat × V))} {Inv : V → Prop} {μ : V → Nat} {Q : Nat × V → Prop} (h : ∀ s, Inv s → ∃ x, (step s).val = some x ∧ (match x with | .inl s' => Inv s' ∧ μ s' < μ s | .inr t => Q t)) : ∀ (k : Nat) (v : V), μ v < k → Inv v → runC step v = true ∧ Q (runG step v)
  | 0, _, hk, _ => absurd hk (Nat.not_lt_zero _)
  | k + 1, v, hk, hv => by
    obtain ⟨x, hx, hq⟩ := h v hv
    cases x with
    | inl s =>
      obtain ⟨h1, h2⟩ := run_val h k s (by have := hq.2; omega) hq.1
      obtain ⟨h3, h4⟩ := run_next hx h1
      exact ⟨h3, by rw [h4]; exact h2⟩
    | inr t =>
      obtain ⟨h3, h4⟩ := run_end hx
      exact ⟨h3, by rw [h4]; exact hq⟩
theorem cutLen_none {α : Type} (l : List α) (i : Nat) : cutLen l i none = l.length - i := by cases i <;> rfl
theorem cut_none {α : Type} (l : List α) (i : Nat) : cut l i none = l.drop i := by cases i <;> rfl
theorem room8 {n : Nat} (h : n ≤ 100000) : decide (n * (8 : Nat) ≤ maxNew) = true ∧ decide (n ≤ maxLen) = true := ⟨decide_eq_true (by unfold maxNew; omega), decide_eq_true (by unfold maxLen; omega)⟩
theorem room16 {n : Nat} (h : n ≤ 100000) : decide (n * (16 : Nat) ≤ maxNew) = true ∧ decide (n ≤ maxLen) = true := ⟨decide_eq_true (by unfold maxNew; omega), decide_eq_true (by unfold maxLen; omega)⟩
theorem room24 {n : Nat} (h : n ≤ 100000) : decide (n * (24 : Nat) ≤ maxNew) = true ∧ decide (n ≤ maxLen) = true := ⟨decide_eq_true (by unfold maxNew; omega), decide_eq_true (by unfold maxLen; omega)⟩
theorem room40 {n : Nat} (h : n ≤ 100000) : decide (n * (40 : Nat) ≤ maxNew) = true ∧ decide (n ≤ maxLen) = true := ⟨decide_eq_true (by unfold maxNew; omega), decide_eq_true (by unfold maxLen; omega)⟩
theorem room64 {n : Nat} (h : n ≤ 100000) : decide (n * (64 : Nat) ≤ maxNew) = true ∧ decide (n ≤ maxLen) = true := ⟨decide_eq_true (by unfold maxNew; omega), decide_eq_true (by unfold maxLen; omega)⟩
theorem lenI {n : Nat} (h : n ≤ 100000) : decide ((n : Int) ≤ 9223372036854775806) = true := decide_eq_true (by omega)
theorem rep_grow {α : Type} (z e : α) (c m N : Nat) : splice (List.replicate c z ++ List.replicate (N - c) e) c (List.replicate m z) = List.replicate (c + m) z ++ List.replicate (N - (c + m)) e := by
  have h1 : (List.replicate c z ++ List.replicate (N - c) e).take c = List.replicate c z := List.take_left' (by simp)
  have h2 : (List.replicate c z ++ List.replicate (N - c) e).drop (c + m) = List.replicate (N - (c + m)) e := by
    rw [List.drop_append, List.drop_replicate, List.drop_replicate, List.length_replicate]
    rw [show c - (c + m) = 0 by omega, show N - c - (c + m - c) = N - (c + m) by omega]
    rfl
  unfold splice
  rw [List.length_replicate, h1, h2, List.replicate_append_replicate]
/-- A function without parameters whose tree, with all tests carried out, answers 'true'. -/
theorem gTrueV_ok {P : Program} {S : Sums} {On : FuncId → Bool} {L : FuncId → Loops} (hm : P.follows .mixedOrders = true) (hS : SumOK P S) (hL : LoopsOK P L) {d : Nat} {f : FuncId} (h : (match (evalF P S On L d f []).val with | some (.one (.v _ (.bool true))) => true | _ => false) = true) : FunOK P f gTrue := by
  intro args t ht r hr hk w fr us hbas hfr hus
  unfold gTrue at ht
  split at ht
  · simp only [Option.some.injEq] at ht
    subst ht
    simp only [Tr.val, Option.some.injEq] at hr
    subst hr
    split at h
    · rename_i kn hv
      exact (fun_of_tree hm hS hL hv rfl w fr us hbas hfr hus)
    · cases h
  · cases ht
end Go.Proofs.Ytacgchandefjgaa
