/-
  Plain facts on rounds, lists and wrapped sums, for loops that are summed up by themselves. No program is named here.
-/
import Derived.Test.YtdoodmapmhibhaaAut
import Derived.Test.YtdoodmapmhibhaaArith
namespace Go.Proofs.Ytdoodmapmhibhaa
open Go
theorem wid {x : Int} (h : -9223372036854775808 ≤ x) (g : x ≤ 9223372036854775807) : IntKind.wrap IntKind.i64 x = x := IntWalk.i64_in _ ⟨h, g⟩
theorem ite_min (x y : Int) : (if y < x then y else x) = min x y := by
  by_cases h : y < x
  · rw [if_pos h]; omega
  · rw [if_neg h]; omega
theorem ite_max (x y : Int) : (if y > x then y else x) = max x y := by
  by_cases h : y > x
  · rw [if_pos h]; omega
  · rw [if_neg h]; omega
/-- Rounds one by one, up to one that leaves. -/
theorem run_steps {V : Type} {step : V → Tr (V ⊕ (Nat × V))} {St : Nat → V} {n : Nat} {t : Nat × V} (he : (step (St n)).val = some (.inr t)) : ∀ (k i : Nat), i + k = n → (∀ j, i ≤ j → j < n → (step (St j)).val = some (.inl (St (j + 1)))) → runC step (St i) = true ∧ runG step (St i) = t
  | 0, i, hi, _ => by
    have : i = n := by omega
    subst this
    exact run_end he
  | k + 1, i, hi, h => by
    obtain ⟨h1, h2⟩ := run_steps he k (i + 1) (by omega) (fun j hj hn => h j (by omega) hn)
    obtain ⟨h3, h4⟩ := run_next (h i (Nat.le_refl _) (by omega)) h1
    exact ⟨h3, h4.trans h2⟩
/-- A list by its elements. -/
def tab {α : Type} (n : Nat) (f : Nat → α) : List α := (List.range n).map f
theorem tab_length {α : Type} (n : Nat) (f : Nat → α) : (tab n f).length = n := by simp [tab]
theorem tab_get? {α : Type} {n : Nat} {f : Nat → α} {i : Nat} (h : i < n) : (tab n f)[i]? = some (f i) := by simp [tab, h]
theorem tab_getD {α : Type} {n : Nat} {f : Nat → α} {i : Nat} (d : α) (h : i < n) : (tab n f).getD i d = f i := by simp [List.getD, tab_get? h]
theorem tab_congr {α : Type} {n : Nat} {f g : Nat → α} (h : ∀ i, i < n → f i = g i) : tab n f = tab n g := List.map_congr_left fun i hi => h i (List.mem_range.1 hi)
theorem tab_set {α : Type} {n : Nat} {f : Nat → α} (i : Nat) (x : α) : (tab n f).set i x = tab n (fun j => if j = i then x else f j) := by
  apply List.ext_getElem?
  intro j
  by_cases hj : j < n
  · by_cases e : j = i
    · subst e
      rw [List.getElem?_set_self (by rw [tab_length]; exact hj), tab_get? hj, if_pos rfl]
    · rw [List.getElem?_set_ne (fun h => e h.symm), tab_get? hj, tab_get? hj, if_neg e]
  · rw [List.getElem?_eq_none (by simp [tab_length]; omega), List.getElem?_eq_none (by simp [tab_length]; omega)]
theorem tab_succ {α : Type} (n : Nat) (f : Nat → α) : tab (n + 1) f = tab n f ++ [f n] := by simp [tab, List.range_succ]
theorem tab_rep {α : Type} (n : Nat) (x : α) : List.replicate n x = tab n (fun _ => x) := by
  apply List.ext_getElem?
  intro j
  by_cases hj : j < n
  · rw [tab_get? hj]; simp [hj]
  · rw [List.getElem?_eq_none (by simp; omega), List.getElem?_eq_none (by simp [tab_length]; omega)]
theorem elm_nat (t : Ty) (l : List t.den) (i : Nat) : elm t l (i : Int) = l.getD i t.dflt := by simp [elm]
end Go.Proofs.Ytdoodmapmhibhaa
