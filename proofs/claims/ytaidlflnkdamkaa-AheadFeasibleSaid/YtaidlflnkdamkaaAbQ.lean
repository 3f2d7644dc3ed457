/-
  Layer 44: what Choice and same come to.
-/
import Derived.Test.YtaidlflnkdamkaaAbL
namespace Go.Proofs.Ytaidlflnkdamkaa
open Go
def wz (x y : Int) : Int := if IntKind.wrap IntKind.i64 ((0 : Int) - IntKind.wrap IntKind.i64 (y - x)) > IntKind.wrap IntKind.i64 (y - x) then IntKind.wrap IntKind.i64 ((0 : Int) - IntKind.wrap IntKind.i64 (y - x)) else IntKind.wrap IntKind.i64 (y - x)
def sI (s : List Int) (i : Nat) : Int := s.getD i 0
def chV (L : BkL) (C : List Int) (s : List Int) (i : Nat) : Bool := decide (sI s i < 0) || ((decide (i < L.length) && decide (sI s i > crB (bL L i))) || ((decide (0 < i) && decide (sI s i > crB (bL L (i - 1)))) || ((decide (0 < i) && (decide (i < L.length) && decide (sI s i > cI C i))) || (decide (i < L.length) && decide (wz (sI s i) (sI s (i + 1)) > rO L i)))))
section
variable {L : BkL} {C s : List Int} {e : Int}
set_option maxHeartbeats 1000000 in
theorem rcc_val (h40 : L.length ≤ 40) (hC : C.length = L.length) (hs : s.length = L.length + 1) {fl : Bool} {i : Nat} (hi : i < L.length + 1) :
    (rcc_step (L, C, s, (L.length : Int)) (fl, (i : Int))).val = cond (chV L C s i) (some (.inr (0, (false, (i : Int))))) (some (.inl (fl, ((i + 1 : Nat) : Int)))) := by
  have c1 : decide ((i : Int) ≤ (L.length : Int)) = true := decide_eq_true (by omega)
  have c2 : decide ((0 : Int) ≤ (i : Int)) = true := decide_eq_true (by omega)
  have c3 : decide ((i : Int) < (s.length : Int)) = true := decide_eq_true (by omega)
  have w1 : IntKind.wrap IntKind.i64 ((i : Int) + 1) = ((i + 1 : Nat) : Int) := by rw [wid (by omega) (by omega)]; omega
  have f1 : el_i s (i : Int) = sI s i := elm_nat (.int .i64) s i
  have f2 : Prod.fst (Prod.snd (Prod.snd (Prod.snd (el_iiiiiiii L (i : Int))))) = crB (bL L i) := rfl
  have f3 : el_i C (i : Int) = cI C i := rfl
  have f4 : reach (Prod.fst (Prod.fst (el_iiiiiiii L (i : Int)))) (Prod.fst (Prod.snd (Prod.fst (el_iiiiiiii L (i : Int))))) (Prod.fst (Prod.snd (Prod.snd (Prod.fst (el_iiiiiiii L (i : Int)))))) (Prod.snd (Prod.snd (Prod.snd (Prod.fst (el_iiiiiiii L (i : Int)))))) (Prod.fst (Prod.snd (el_iiiiiiii L (i : Int)))) = rO L i := rfl
  have f5 : el_i s ((i + 1 : Nat) : Int) = sI s (i + 1) := elm_nat (.int .i64) s (i + 1)
  have fw : (if IntKind.wrap IntKind.i64 ((0 : Int) - IntKind.wrap IntKind.i64 (sI s (i + 1) - sI s i)) > IntKind.wrap IntKind.i64 (sI s (i + 1) - sI s i) then IntKind.wrap IntKind.i64 ((0 : Int) - IntKind.wrap IntKind.i64 (sI s (i + 1) - sI s i)) else IntKind.wrap IntKind.i64 (sI s (i + 1) - sI s i)) = wz (sI s i) (sI s (i + 1)) := rfl
  simp only [rcc_step, Tr.val, c1, c2, c3, w1, f1, f2, f3, f4, f5, fw, Bool.and_self, cond_true]
  unfold chV
  by_cases hin : i < L.length
  · have d1 : decide ((i : Int) < (L.length : Int)) = true := decide_eq_true (by omega)
    have d2 : decide (i < L.length) = true := decide_eq_true hin
    have d3 : decide ((0 : Int) ≤ ((i + 1 : Nat) : Int)) = true := decide_eq_true (by omega)
    have d4 : decide (((i + 1 : Nat) : Int) < (s.length : Int)) = true := decide_eq_true (by omega)
    have d5 : decide ((i : Int) < (C.length : Int)) = true := decide_eq_true (by omega)
    cases i with
    | zero =>
      have d6 : decide (((0 : Nat) : Int) > 0) = false := rfl
      have d7 : decide (0 < 0) = false := rfl
      simp only [d1, d2, d3, d4, d5, d6, d7, Bool.and_self, Bool.true_and, Bool.false_and, Bool.false_or, cond_true, cond_false]
      generalize decide (sI s 0 < 0) = A
      generalize decide (sI s 0 > crB (bL L 0)) = B
      generalize decide (wz (sI s 0) (sI s (0 + 1)) > rO L 0) = E
      cases A <;> cases B <;> cases E <;> rfl
    | succ j =>
      have d6 : decide (((j + 1 : Nat) : Int) > 0) = true := decide_eq_true (by omega)
      have d7 : decide (0 < j + 1) = true := decide_eq_true (by omega)
      have w2 : IntKind.wrap IntKind.i64 (((j + 1 : Nat) : Int) - 1) = (j : Int) := by rw [wid (by omega) (by omega)]; omega
      have d8 : decide ((0 : Int) ≤ (j : Int)) = true := decide_eq_true (by omega)
      have d9 : decide ((j : Int) < (L.length : Int)) = true := decide_eq_true (by omega)
      have f6 : Prod.fst (Prod.snd (Prod.snd (Prod.snd (el_iiiiiiii L (j : Int))))) = crB (bL L (j + 1 - 1)) := by rw [show j + 1 - 1 = j by omega]; rfl
      simp only [d1, d2, d3, d4, d5, d6, d7, w2, d8, d9, f6, Bool.and_self, Bool.true_and, cond_true]
      generalize decide (sI s (j + 1) < 0) = A
      generalize decide (sI s (j + 1) > crB (bL L (j + 1))) = B
      generalize decide (sI s (j + 1) > crB (bL L (j + 1 - 1))) = D
      generalize decide (sI s (j + 1) > cI C (j + 1)) = F
      generalize decide (wz (sI s (j + 1)) (sI s (j + 1 + 1)) > rO L (j + 1)) = E
      cases A <;> cases B <;> cases D <;> cases F <;> cases E <;> rfl
  · have d1 : decide ((i : Int) < (L.length : Int)) = false := decide_eq_false (by omega)
    have d2 : decide (i < L.length) = false := decide_eq_false hin
    cases i with
    | zero =>
      have d6 : decide (((0 : Nat) : Int) > 0) = false := rfl
      have d7 : decide (0 < 0) = false := rfl
      simp only [d1, d2, d6, d7, Bool.false_and, Bool.or_false, cond_false]
      generalize decide (sI s 0 < 0) = A
      cases A <;> rfl
    | succ j =>
      have d6 : decide (((j + 1 : Nat) : Int) > 0) = true := decide_eq_true (by omega)
      have d7 : decide (0 < j + 1) = true := decide_eq_true (by omega)
      have w2 : IntKind.wrap IntKind.i64 (((j + 1 : Nat) : Int) - 1) = (j : Int) := by rw [wid (by omega) (by omega)]; omega
      have d8 : decide ((0 : Int) ≤ (j : Int)) = true := decide_eq_true (by omega)
      have d9 : decide ((j : Int) < (L.length : Int)) = true := decide_eq_true (by omega)
      have f6 : Prod.fst (Prod.snd (Prod.snd (Prod.snd (el_iiiiiiii L (j : Int))))) = crB (bL L (j + 1 - 1)) := by rw [show j + 1 - 1 = j by omega]; rfl
      simp only [d1, d2, d6, d7, w2, d8, d9, f6, Bool.false_and, Bool.and_false, Bool.or_false, Bool.false_or, Bool.true_and, Bool.and_self, cond_true, cond_false]
      generalize decide (sI s (j + 1) < 0) = A
      generalize decide (sI s (j + 1) > crB (bL L (j + 1 - 1))) = D
      cases A <;> cases D <;> rfl
theorem rcc_run (h40 : L.length ≤ 40) (hC : C.length = L.length) (hs : s.length = L.length + 1) : rcc_cond (L, C, s, (L.length : Int)) (false, (0 : Int)) = true ∧ ∃ k i, rcc_g (L, C, s, (L.length : Int)) (false, (0 : Int)) = (k, (false, i)) ∧ k = cond (anyN (chV L C s) (L.length + 1)) 0 1 := by
  obtain ⟨h1, h2⟩ := run_first (step := rcc_step (L, C, s, (L.length : Int))) (St := fun j => (false, (j : Int))) (p := chV L C s) (n := L.length + 1) (fun j hj => rcc_val (fl := false) h40 hC hs hj)
    (t := (1, (false, ((L.length + 1 : Nat) : Int)))) (by
      have c1 : decide (((L.length + 1 : Nat) : Int) ≤ (L.length : Int)) = false := decide_eq_false (by omega)
      simp only [rcc_step, Tr.val, c1, cond_false])
  refine ⟨h1, ?_⟩
  rcases h2 with ⟨j, hj, hp, _, h3⟩ | ⟨hp, h3⟩
  · exact ⟨0, (j : Int), h3, by rw [anyN_true.2 ⟨j, hj, hp⟩]; rfl⟩
  · exact ⟨1, _, h3, by rw [anyN_false.2 hp]; rfl⟩
def choB (L : BkL) (C : List Int) (e : Int) (s : List Int) : Bool := bif sI s 0 != e then false else bif sI s L.length != 0 then false else !anyN (chV L C s) (L.length + 1)
def choK (L : BkL) (C s : List Int) : Bool := decide (1 ≤ L.length) && (decide (L.length ≤ 40) && (decide (C.length = L.length) && decide (s.length = L.length + 1)))
end
end Go.Proofs.Ytaidlflnkdamkaa
