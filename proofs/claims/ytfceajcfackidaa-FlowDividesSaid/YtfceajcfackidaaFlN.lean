/-
  Layer 35: what the loops of Amounts come to.
-/
import Derived.Test.YtfceajcfackidaaFlB
import Derived.Test.YtfceajcfackidaaFlC
namespace Go.Proofs.Ytfceajcfackidaa
open Go
abbrev Op1 : Type := Int × Int × Int × Int × Int × List (Int × Int)
abbrev OpL : Type := (Ty.list (.prod (.int .i64) (.prod (.int .i64) (.prod (.int .i64) (.prod (.int .i64) (.prod (.int .i64) (.list (.prod (.int .i64) (.int .i64))))))))).den
def oL (L : OpL) (i : Nat) : Op1 := el_iiiiilii L (i : Int)
def kd (L : OpL) (i : Nat) : Int := (oL L i).1
def cn (L : OpL) (i : Nat) : Int := ((oL L i).2.2.2.2.2.length : Int)
def ordK (k : Int) (b : Bool) : Bool := bif (k == 3) || (k == 4) then b else (k == 5) && !b
def nK (k c n : Int) : Int := bif k == 3 then n + c else n
def bK (k : Int) (b : Bool) : Bool := bif k == 4 then true else bif k == 5 then false else b
/-- What is printed, and whether the filament is retracted, ahead of operation i. -/
def nb35 (L : OpL) : Nat → Int × Bool
  | 0 => (0, false)
  | i + 1 => (nK (kd L i) (cn L i) (nb35 L i).1, bK (kd L i) (nb35 L i).2)
def bad35 (L : OpL) (i : Nat) : Bool := ordK (kd L i) (nb35 L i).2 || decide ((nb35 L (i + 1)).1 > 1048576)
theorem run_firstP {V : Type} {step : V → Tr (V ⊕ (Nat × V))} {St : Nat → V} {out : Nat → Nat × V} {p : Nat → Bool} {n : Nat} {t : Nat × V} (h : ∀ j, j < n → (∀ k, k < j → p k = false) → (step (St j)).val = cond (p j) (some (.inr (out j))) (some (.inl (St (j + 1))))) (h3 : (∀ k, k < n → p k = false) → (step (St n)).val = some (.inr t)) :
    runC step (St 0) = true ∧ runG step (St 0) = (if firstB p n 0 < n then out (firstB p n 0) else t) := by
  obtain ⟨_, g2, g3, g4⟩ := firstB_spec p n 0
  by_cases hn : firstB p n 0 < n
  · have hp := g4 (by omega)
    rw [if_pos hn]
    exact run_steps (St := St) (n := firstB p n 0) (t := out (firstB p n 0)) (by rw [h _ hn fun k hk => g3 k (by omega) hk, hp]; rfl) _ 0 (Nat.zero_add _) fun j _ hj => by rw [h j (by omega) fun k hk => g3 k (by omega) (by omega), g3 j (by omega) hj]; rfl
  · rw [if_neg hn]
    have hz : ∀ j, j < n → p j = false := fun j hj => g3 j (by omega) (by omega)
    exact run_steps (St := St) (n := n) (h3 hz) n 0 (Nat.zero_add _) fun j _ hj => by rw [h j hj fun k hk => hz k (by omega), hz j hj]; rfl
section
variable {L : OpL} {pi he wa tp bo pa sp : Int} {su : Bool} {re ga br sk dr fe tr rt mt mf nz bd : Int}
theorem nb_in (hc : ∀ i, i < L.length → cn L i ≤ 100000) {j : Nat} (hj : j ≤ L.length) (h : ∀ k, k < j → bad35 L k = false) : 0 ≤ (nb35 L j).1 ∧ (nb35 L j).1 ≤ 1048576 := by
  cases j with
  | zero => simp [nb35]
  | succ i =>
    have h1 := h i (by omega)
    unfold bad35 at h1
    rw [Bool.or_eq_false_iff, decide_eq_false_iff_not] at h1
    obtain ⟨a, _⟩ := nb_in hc (j := i) (by omega) fun k hk => h k (by omega)
    refine ⟨?_, by omega⟩
    have : 0 ≤ cn L i := by unfold cn; omega
    simp only [nb35, nK]
    cases (kd L i == 3) <;> simp only [cond_true, cond_false] <;> omega
def pz (pi he dr rt : Int) (L : OpL) (i : Nat) : Int := pos pi he dr rt (nb35 L (i + 1)).1 (nb35 L (i + 1)).2
set_option maxHeartbeats 1000000 in
theorem am_val (hs : sv pi he wa tp bo pa sp su re ga br sk dr fe tr rt mt mf nz bd = true) (hL : L.length ≤ 1000) (hc : ∀ i, i < L.length → cn L i ≤ 100000) {j : Nat} (hj : j < L.length) (hp : ∀ k, k < j → bad35 L k = false) :
    (am_step (L, (L.length : Int), pi, he, wa, tp, bo, pa, sp, su, re, ga, br, sk, dr, fe, tr, rt, mt, mf, nz, bd) ((0 : Int), (nb35 L j).1, (nb35 L j).2, (j : Int), tab j (pz pi he dr rt L))).val =
      cond (bad35 L j) (some (.inr (0, ((bif ordK (kd L j) (nb35 L j).2 then 11 else 2), (bif ordK (kd L j) (nb35 L j).2 then (nb35 L j).1 else (nb35 L (j + 1)).1), (nb35 L j).2, (j : Int), tab j (pz pi he dr rt L))))) (some (.inl ((0 : Int), (nb35 L (j + 1)).1, (nb35 L (j + 1)).2, ((j + 1 : Nat) : Int), tab (j + 1) (pz pi he dr rt L)))) := by
  have N := nb_in hc (Nat.le_of_lt hj) hp
  have c1 : decide ((j : Int) < (L.length : Int)) = true := decide_eq_true (by omega)
  have c2 : decide ((0 : Int) ≤ (j : Int)) = true := decide_eq_true (by omega)
  have w1 : IntKind.wrap IntKind.i64 ((j : Int) + 1) = ((j + 1 : Nat) : Int) := by rw [wid (by omega) (by omega)]; omega
  have c6 : (decide ((j + 1) * 8 ≤ maxNew) && decide (j + 1 ≤ maxLen)) = true := by simp only [Bool.and_eq_true, decide_eq_true_eq]; exact ⟨by simp [maxNew]; omega, by simp [maxLen]; omega⟩
  have hcj := hc j hj
  have hc0 : 0 ≤ cn L j := by unfold cn; omega
  have f1 : Prod.fst (el_iiiiilii L (j : Int)) = kd L j := rfl
  have f2 : ((List.length (Prod.snd (Prod.snd (Prod.snd (Prod.snd (Prod.snd (el_iiiiilii L (j : Int))))))) : Nat) : Int) = cn L j := rfl
  have w2 : IntKind.wrap IntKind.i64 ((nb35 L j).1 + cn L j) = (nb35 L j).1 + cn L j := wid (by omega) (by omega)
  have d1 : decide ((nb35 L j).1 > 1048576) = false := decide_eq_false (by omega)
  have d2 : decide ((0 : Int) ≤ (nb35 L j).1) = true := decide_eq_true N.1
  have d3 : decide ((nb35 L j).1 ≤ 1048576) = true := decide_eq_true N.2
  have d4 : decide ((0 : Int) ≤ (nb35 L j).1 + cn L j) = true := decide_eq_true (by omega)
  have ts : tab (j + 1) (pz pi he dr rt L) = tab j (pz pi he dr rt L) ++ [pos pi he dr rt (nb35 L (j + 1)).1 (nb35 L (j + 1)).2] := tab_succ j _
  simp only [am_step, Tr.val, c1, c2, w1, f1, f2, w2, d1, d2, d3, d4, tab_length, c6, hs, ts, Bool.and_self, Bool.true_and, cond_true, cond_false]
  unfold bad35
  have e1 : (nb35 L (j + 1)).1 = nK (kd L j) (cn L j) (nb35 L j).1 := rfl
  have e2 : (nb35 L (j + 1)).2 = bK (kd L j) (nb35 L j).2 := rfl
  rw [e1, e2]
  unfold nK bK ordK
  generalize kd L j = k at *
  generalize cn L j = c at *
  generalize (nb35 L j).2 = b at *
  generalize (nb35 L j).1 = n at *
  by_cases k3 : k = 3
  · subst k3
    have z3 : ((3 : Int) == 3) = true := rfl
    have z4 : ((3 : Int) == 4) = false := rfl
    have z5 : ((3 : Int) == 5) = false := rfl
    simp only [z3, z4, z5, Bool.true_or, Bool.or_false, cond_true, cond_false]
    by_cases hl : n + c > 1048576
    · have q1 : decide (n + c > 1048576) = true := decide_eq_true hl
      simp only [q1, cond_true]
      cases b <;> rfl
    · have q1 : decide (n + c > 1048576) = false := decide_eq_false hl
      have q2 : decide (n + c ≤ 1048576) = true := decide_eq_true (by omega)
      simp only [q1, q2, cond_true, cond_false]
      cases b <;> rfl
  · have z3 : (k == 3) = false := beq_f k3
    by_cases k4 : k = 4
    · subst k4
      have z4 : ((4 : Int) == 4) = true := rfl
      have z5 : ((4 : Int) == 5) = false := rfl
      simp only [z3, z4, z5, d1, Bool.or_true, Bool.or_false, cond_true, cond_false]
      cases b <;> rfl
    · have z4 : (k == 4) = false := beq_f k4
      by_cases k5 : k = 5
      · subst k5
        have z5 : ((5 : Int) == 5) = true := rfl
        simp only [z3, z4, z5, d1, Bool.or_false, Bool.false_or, Bool.true_and, cond_true, cond_false]
        cases b <;> rfl
      · have z5 : (k == 5) = false := beq_f k5
        simp only [z3, z4, z5, d1, Bool.or_false, Bool.false_and, cond_false]
end
end Go.Proofs.Ytfceajcfackidaa
