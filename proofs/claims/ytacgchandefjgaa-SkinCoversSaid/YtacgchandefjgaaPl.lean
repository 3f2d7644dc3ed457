/-
  Plain facts on rounds, lists and wrapped sums, for loops that are summed up by themselves. No program is named here.
-/
import Derived.Test.YtacgchandefjgaaAut
import Derived.Test.YtacgchandefjgaaArith
namespace Go.Proofs.Ytacgchandefjgaa
open Go
theorem wid {x : Int} (h : -9223372036854775808 ≤ x) (g : x ≤ 9223372036854775807) : IntKind.wrap IntKind.i64 x = x := IntWalk.i64_in _ ⟨h, g⟩
theorem ite_min (x y : Int) : (if y < x then y else x) = min x y := by
  by_cases h : y < x
  · rw [if_pos h]; omega
  · rw [if_neg h]; omega
theorem ite_max (x y : Int) : (if y > x then y else x) = max x y := by
  by_cases h : y > x
  · rw [if_pos h]; omega
  · rw [if_neg h]; omega
/-- Rounds one by one, up to one that leaves. -/
theorem run_steps {V : Type} {step : V → Tr (V ⊕ (Nat × V))} {St : Nat → V} {n : Nat} {t : Nat × V} (he : (step (St n)).val = some (.inr t)) : ∀ (k i : Nat), i + k = n → (∀ j, i ≤ j → j < n → (step (St j)).val = some (.inl (St (j + 1)))) → runC step (St i) = true ∧ runG step (St i) = t
  | 0, i, hi, _ => by
    have : i = n := by omega
    subst this
    exact run_end he
  | k + 1, i, hi, h => by
    obtain ⟨h1, h2⟩ := run_steps he k (i + 1) (by omega) (fun j hj hn => h j (by omega) hn)
    obtain ⟨h3, h4⟩ := run_next (h i (Nat.le_refl _) (by omega)) h1
    exact ⟨h3, h4.trans h2⟩
/-- The first number below n for which p holds, or n. -/
def firstB (p : Nat → Bool) : Nat → Nat → Nat
  | 0, i => i
  | k + 1, i => cond (p i) i (firstB p k (i + 1))
theorem firstB_spec (p : Nat → Bool) : ∀ (k i : Nat), i ≤ firstB p k i ∧ firstB p k i ≤ i + k ∧ (∀ j, i ≤ j → j < firstB p k i → p j = false) ∧ (firstB p k i < i + k → p (firstB p k i) = true)
  | 0, i => ⟨Nat.le_refl _, Nat.le_refl _, fun j h g => absurd g (by simp only [firstB]; omega), fun h => absurd h (by simp [firstB])⟩
  | k + 1, i => by
    simp only [firstB]
    cases hp : p i with
    | true => exact ⟨Nat.le_refl _, by simp, fun j h g => absurd g (by simp; omega), fun _ => hp⟩
    | false =>
      obtain ⟨h1, h2, h3, h4⟩ := firstB_spec p k (i + 1)
      simp only [cond_false]
      refine ⟨by omega, by omega, fun j hj hn => ?_, fun h => h4 (by omega)⟩
      by_cases e : j = i
      · subst e; exact hp
      · exact h3 j (by omega) hn
/-- A list by its elements. -/
def tab {α : Type} (n : Nat) (f : Nat → α) : List α := (List.range n).map f
theorem tab_length {α : Type} (n : Nat) (f : Nat → α) : (tab n f).length = n := by simp [tab]
theorem tab_get? {α : Type} {n : Nat} {f : Nat → α} {i : Nat} (h : i < n) : (tab n f)[i]? = some (f i) := by simp [tab, h]
theorem tab_getD {α : Type} {n : Nat} {f : Nat → α} {i : Nat} (d : α) (h : i < n) : (tab n f).getD i d = f i := by simp [List.getD, tab_get? h]
theorem tab_congr {α : Type} {n : Nat} {f g : Nat → α} (h : ∀ i, i < n → f i = g i) : tab n f = tab n g := List.map_congr_left fun i hi => h i (List.mem_range.1 hi)
theorem tab_inj {α : Type} {n : Nat} {f g : Nat → α} (h : tab n f = tab n g) : ∀ i, i < n → f i = g i := fun i hi => by
  have := congrArg (·[i]?) h
  simpa [tab_get? hi] using this
theorem tab_set {α : Type} {n : Nat} {f : Nat → α} (i : Nat) (x : α) : (tab n f).set i x = tab n (fun j => if j = i then x else f j) := by
  apply List.ext_getElem?
  intro j
  by_cases hj : j < n
  · by_cases e : j = i
    · subst e
      rw [List.getElem?_set_self (by rw [tab_length]; exact hj), tab_get? hj, if_pos rfl]
    · rw [List.getElem?_set_ne (fun h => e h.symm), tab_get? hj, tab_get? hj, if_neg e]
  · rw [List.getElem?_eq_none (by simp [tab_length]; omega), List.getElem?_eq_none (by simp [tab_length]; omega)]
theorem tab_succ {α : Type} (n : Nat) (f : Nat → α) : tab (n + 1) f = tab n f ++ [f n] := by simp [tab, List.range_succ]
theorem tab_zero {α : Type} (f : Nat → α) : tab 0 f = [] := rfl
theorem tab_rep {α : Type} (n : Nat) (x : α) : List.replicate n x = tab n (fun _ => x) := by
  apply List.ext_getElem?
  intro j
  by_cases hj : j < n
  · rw [tab_get? hj]; simp [hj]
  · rw [List.getElem?_eq_none (by simp; omega), List.getElem?_eq_none (by simp [tab_length]; omega)]
theorem tab_self {α : Type} (l : List α) (d : α) : l = tab l.length (fun i => l.getD i d) := by
  apply List.ext_getElem?
  intro j
  by_cases hj : j < l.length
  · rw [tab_get? hj, List.getD, List.getElem?_eq_getElem hj]; rfl
  · rw [List.getElem?_eq_none (by omega), List.getElem?_eq_none (by simp [tab_length]; omega)]
theorem elm_nat (t : Ty) (l : List t.den) (i : Nat) : elm t l (i : Int) = l.getD i t.dflt := by simp [elm]
/-- The index of the first element of which p holds, or -1. -/
def ixOf {α : Type} (p : α → Bool) (l : List α) : Int := match l.findIdx? p with | some i => (i : Int) | none => -1
theorem ixOf_any {α : Type} (p : α → Bool) (l : List α) : decide ((0 : Int) ≤ ixOf p l) = l.any p := by
  unfold ixOf
  rw [Bool.eq_iff_iff]
  cases h : l.findIdx? p with
  | none =>
    simp only [List.findIdx?_eq_none_iff] at h
    simp
    exact fun x hx => h x hx
  | some i =>
    obtain ⟨hi, hp, _⟩ := List.findIdx?_eq_some_iff_getElem.1 h
    simp only [decide_eq_true_eq, List.any_eq_true]
    exact ⟨fun _ => ⟨l[i], List.getElem_mem hi, hp⟩, fun _ => by omega⟩
theorem ixOf_first {α : Type} (p : α → Bool) (l : List α) (d : α) : ixOf p l = (if firstB (fun i => p (l.getD i d)) l.length 0 < l.length then (firstB (fun i => p (l.getD i d)) l.length 0 : Int) else -1) := by
  obtain ⟨h1, h2, h3, h4⟩ := firstB_spec (fun i => p (l.getD i d)) l.length 0
  generalize firstB (fun i => p (l.getD i d)) l.length 0 = n at *
  have get : ∀ i, (hi : i < l.length) → l.getD i d = l[i] := fun i hi => by rw [List.getD, List.getElem?_eq_getElem hi]; rfl
  unfold ixOf
  by_cases hn : n < l.length
  · rw [if_pos hn]
    have : l.findIdx? p = some n := by
      rw [List.findIdx?_eq_some_iff_getElem]
      refine ⟨hn, ?_, fun j hj => ?_⟩
      · have := h4 (by omega)
        rwa [get n hn] at this
      · have := h3 j (by omega) hj
        rw [get j (by omega)] at this
        simp [this]
    rw [this]
  · rw [if_neg hn]
    have : l.findIdx? p = none := by
      rw [List.findIdx?_eq_none_iff]
      intro x hx
      obtain ⟨j, hj, rfl⟩ := List.getElem_of_mem hx
      have := h3 j (by omega) (by omega)
      rwa [get j hj] at this
    rw [this]
theorem any_false {α : Type} {p : α → Bool} {l : List α} (h : l.any p = false) {i : Nat} (hi : i < l.length) (d : α) : p (l.getD i d) = false := by
  rw [List.any_eq_false] at h
  have := h (l.getD i d) (by rw [List.getD, List.getElem?_eq_getElem hi]; exact List.getElem_mem hi)
  simpa using this
end Go.Proofs.Ytacgchandefjgaa
