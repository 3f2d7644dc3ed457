/-
  Layer 44: what the loops of Feasible and Plan come to.
-/
import Derived.Test.YtaidlflnkdamkaaAbE
namespace Go.Proofs.Ytaidlflnkdamkaa
open Go
def enB (b : Bk) : Int := b.2.2.1
def exB (b : Bk) : Int := b.2.2.2.2
theorem valB_in {b : Bk} (h : valB b = true) : sndB b = true ∧ 0 ≤ enB b ∧ enB b ≤ crB b ∧ 0 ≤ exB b ∧ exB b ≤ crB b ∧ crB b ≤ 1099511627776 := by
  obtain ⟨⟨a, b, c, d⟩, ac, en, cr, ex⟩ := b
  unfold valB at h
  rw [bv_iff] at h
  unfold sndB sval enB exB crB
  simp only [Bool.and_eq_true, decide_eq_true_eq]
  dsimp only at *
  obtain ⟨hd, h⟩ := h
  refine ⟨⟨hd, ?_⟩, ?_⟩ <;> omega
theorem valB_iff {b : Bk} : valB b = true ↔ sndB b = true ∧ 0 ≤ enB b ∧ enB b ≤ crB b ∧ 0 ≤ exB b ∧ exB b ≤ crB b := by
  constructor
  · intro h; have := valB_in h; exact ⟨this.1, by omega⟩
  · intro h
    obtain ⟨⟨a, b, c, d⟩, ac, en, cr, ex⟩ := b
    unfold valB
    rw [bv_iff]
    unfold sndB sval enB exB crB at h
    simp only [Bool.and_eq_true, decide_eq_true_eq] at h
    dsimp only at *
    obtain ⟨⟨hd, h1⟩, h2⟩ := h
    exact ⟨hd, by omega⟩
/-- The first round that leaves, or none. -/
theorem run_first {V : Type} {step : V → Tr (V ⊕ (Nat × V))} {St : Nat → V} {out : Nat → Nat × V} {p : Nat → Bool} {n : Nat} {t : Nat × V} (h : ∀ j, j < n → (step (St j)).val = cond (p j) (some (.inr (out j))) (some (.inl (St (j + 1))))) (h3 : (step (St n)).val = some (.inr t)) :
    runC step (St 0) = true ∧ ((∃ j, j < n ∧ p j = true ∧ (∀ k, k < j → p k = false) ∧ runG step (St 0) = out j) ∨ ((∀ j, j < n → p j = false) ∧ runG step (St 0) = t)) := by
  obtain ⟨_, g2, g3, g4⟩ := firstB_spec p n 0
  by_cases hn : firstB p n 0 < n
  · have hp := g4 (by omega)
    have := run_steps (St := St) (n := firstB p n 0) (t := out (firstB p n 0)) (by rw [h _ hn, hp]; rfl) _ 0 (Nat.zero_add _) fun j _ hj => by rw [h j (by omega), g3 j (by omega) hj]; rfl
    exact ⟨this.1, .inl ⟨_, hn, hp, fun k hk => g3 k (by omega) hk, this.2⟩⟩
  · have hz : ∀ j, j < n → p j = false := fun j hj => g3 j (by omega) (by omega)
    have := run_steps (St := St) (n := n) h3 n 0 (Nat.zero_add _) fun j _ hj => by rw [h j hj, hz j hj]; rfl
    exact ⟨this.1, .inr ⟨hz, this.2⟩⟩
/-- The whole list: does p hold of any number below n. -/
def anyN (p : Nat → Bool) (n : Nat) : Bool := (List.range n).any p
theorem anyN_true {p : Nat → Bool} {n : Nat} : anyN p n = true ↔ ∃ j, j < n ∧ p j = true := by simp [anyN]
theorem anyN_false {p : Nat → Bool} {n : Nat} : anyN p n = false ↔ ∀ j, j < n → p j = false := by simp [anyN]
def feaV (L : BkL) (C : List Int) (i : Nat) : Bool := bif decide (max (exB (bL L i) - enB (bL L i)) (enB (bL L i) - exB (bL L i)) > rO L i) then true else bif decide (0 < i) then bif enB (bL L i) != exB (bL L (i - 1)) then true else decide (enB (bL L i) > cI C i) else false
section
variable {L : BkL} {C : List Int} {e : Int}
theorem fea_val (hv : ∀ i, i < L.length → valB (bL L i) = true) (hC : C.length = L.length) (h40 : L.length ≤ 40) {fl : Bool} {i : Nat} (hi : i < L.length) :
    (fea_step (L, C, e, L, (L.length : Int)) (fl, (i : Int))).val = cond (feaV L C i) (some (.inr (0, (false, (i : Int))))) (some (.inl (fl, ((i + 1 : Nat) : Int)))) := by
  have v := valB_in (hv i hi)
  have c1 : decide ((i : Int) < (L.length : Int)) = true := by simp; omega
  have c2 : decide ((0 : Int) ≤ (i : Int)) = true := by simp
  have w1 : IntKind.wrap IntKind.i64 ((i : Int) + 1) = ((i + 1 : Nat) : Int) := by rw [wid (by omega) (by omega)]; omega
  have f1 : Prod.fst (Prod.snd (Prod.snd (el_iiiiiiii L (i : Int)))) = enB (bL L i) := rfl
  have f2 : Prod.snd (Prod.snd (Prod.snd (Prod.snd (el_iiiiiiii L (i : Int))))) = exB (bL L i) := rfl
  have f3 : reach (Prod.fst (Prod.fst (el_iiiiiiii L (i : Int)))) (Prod.fst (Prod.snd (Prod.fst (el_iiiiiiii L (i : Int))))) (Prod.fst (Prod.snd (Prod.snd (Prod.fst (el_iiiiiiii L (i : Int)))))) (Prod.snd (Prod.snd (Prod.snd (Prod.fst (el_iiiiiiii L (i : Int)))))) (Prod.fst (Prod.snd (el_iiiiiiii L (i : Int)))) = rO L i := rfl
  have f4 : el_i C (i : Int) = cI C i := rfl
  have w2 : IntKind.wrap IntKind.i64 (exB (bL L i) - enB (bL L i)) = exB (bL L i) - enB (bL L i) := wid (by omega) (by omega)
  have w3 : IntKind.wrap IntKind.i64 ((0 : Int) - (exB (bL L i) - enB (bL L i))) = enB (bL L i) - exB (bL L i) := by rw [wid (by omega) (by omega)]; omega
  simp only [fea_step, Tr.val, c1, c2, w1, f1, f2, f3, f4, w2, w3, ite_max, Bool.and_self, cond_true]
  unfold feaV
  generalize decide (max (exB (bL L i) - enB (bL L i)) (enB (bL L i) - exB (bL L i)) > rO L i) = z
  cases z
  · simp only [cond_false]
    cases i with
    | zero =>
      rfl
    | succ j =>
      have c3 : decide (((j + 1 : Nat) : Int) > 0) = true := decide_eq_true (by omega)
      have c4 : decide (0 < j + 1) = true := by simp
      have w4 : IntKind.wrap IntKind.i64 (((j + 1 : Nat) : Int) - 1) = (j : Int) := by rw [wid (by omega) (by omega)]; omega
      have c5 : decide ((0 : Int) ≤ (j : Int)) = true := by simp
      have c6 : decide ((j : Int) < (L.length : Int)) = true := by simp; omega
      have c7 : decide (((j + 1 : Nat) : Int) < (C.length : Int)) = true := by simp; omega
      have f5 : Prod.snd (Prod.snd (Prod.snd (Prod.snd (el_iiiiiiii L (j : Int))))) = exB (bL L j) := rfl
      have e1 : j + 1 - 1 = j := by omega
      simp only [c3, c4, w4, c5, c6, c7, f5, e1, Bool.and_self, cond_true]
      cases (enB (bL L (j + 1)) != exB (bL L j)) <;> rfl
  · rfl
theorem fea_run (hv : ∀ i, i < L.length → valB (bL L i) = true) (hC : C.length = L.length) (h40 : L.length ≤ 40) :
    fea_cond (L, C, e, L, (L.length : Int)) (false, (0 : Int)) = true ∧ ∃ k i, fea_g (L, C, e, L, (L.length : Int)) (false, (0 : Int)) = (k, (false, i)) ∧ k = cond (anyN (feaV L C) L.length) 0 1 := by
  obtain ⟨h1, h2⟩ := run_first (step := fea_step (L, C, e, L, (L.length : Int))) (St := fun j => (false, (j : Int))) (p := feaV L C) (n := L.length) (fun j hj => fea_val (e := e) (fl := false) hv hC h40 hj)
    (t := (1, (false, (L.length : Int)))) (by simp only [fea_step, Tr.val, Int.lt_irrefl, decide_false, cond_false])
  refine ⟨h1, ?_⟩
  rcases h2 with ⟨j, hj, hp, _, h3⟩ | ⟨hp, h3⟩
  · exact ⟨0, (j : Int), h3, by rw [anyN_true.2 ⟨j, hj, hp⟩]; rfl⟩
  · exact ⟨1, (L.length : Int), h3, by rw [anyN_false.2 hp]; rfl⟩
def wS (b : Bk) (x y : Int) : Bk := (b.1, b.2.1, x, b.2.2.2.1, y)
theorem el_tab {n i : Nat} (hi : i < n) (f : Nat → Bk) : el_iiiiiiii (tab n f) (i : Int) = f i := by unfold el_iiiiiiii; rw [elm_nat]; exact tab_getD _ hi
theorem eli_tab {n i : Nat} (hi : i < n) (f : Nat → Int) : el_i (tab n f) (i : Int) = f i := by unfold el_i; rw [elm_nat]; exact tab_getD _ hi
theorem bL_tab (L : BkL) : L = tab L.length (bL L) := (tab_self L ((0, 0, 0, 0), 0, 0, 0, 0)).trans (tab_congr fun i _ => (elm_nat (.prod (.prod (.int .i64) (.prod (.int .i64) (.prod (.int .i64) (.int .i64)))) (.prod (.int .i64) (.prod (.int .i64) (.prod (.int .i64) (.int .i64))))) L i).symm)
theorem pla_run (h40 : L.length ≤ 40) {s : Nat → Int} : pla_cond ((0 : Int), tab (L.length + 1) s, (L.length : Int)) ((0 : Int), L) = true ∧ pla_g ((0 : Int), tab (L.length + 1) s, (L.length : Int)) ((0 : Int), L) = (0, ((L.length : Int), tab L.length (fun i => wS (bL L i) (s i) (s (i + 1))))) := by
  have st : tab L.length (bL L) = tab L.length (fun i => if i < 0 then wS (bL L i) (s i) (s (i + 1)) else bL L i) := tab_congr fun i _ => by rw [if_neg (by omega)]
  have en : tab L.length (fun i => wS (bL L i) (s i) (s (i + 1))) = tab L.length (fun i => if i < L.length then wS (bL L i) (s i) (s (i + 1)) else bL L i) := tab_congr fun i hi => by rw [if_pos hi]
  have hL := bL_tab L
  have := run_steps (step := pla_step ((0 : Int), tab (L.length + 1) s, (L.length : Int))) (St := fun j => ((j : Int), tab L.length (fun i => if i < j then wS (bL L i) (s i) (s (i + 1)) else bL L i))) (n := L.length) (t := (0, ((L.length : Int), tab L.length (fun i => if i < L.length then wS (bL L i) (s i) (s (i + 1)) else bL L i)))) (by
    simp only [pla_step, Tr.val, Int.lt_irrefl, decide_false, cond_false]) L.length 0 (Nat.zero_add _) (fun j _ hj => by
    have c1 : decide ((j : Int) < (L.length : Int)) = true := by simp; omega
    have c2 : decide ((0 : Int) ≤ (j : Int)) = true := by simp
    have w1 : IntKind.wrap IntKind.i64 ((j : Int) + 1) = ((j + 1 : Nat) : Int) := by rw [wid (by omega) (by omega)]; omega
    have c3 : decide ((j : Int) < ((L.length + 1 : Nat) : Int)) = true := by simp; omega
    have c4 : decide (((j + 1 : Nat) : Int) < ((L.length + 1 : Nat) : Int)) = true := by simp; omega
    have c5 : decide ((0 : Int) ≤ ((j + 1 : Nat) : Int)) = true := by simp; omega
    have c6 : decide (j < L.length) = true := by simp; omega
    simp only [pla_step, Tr.val, c1, c2, w1, c3, c4, c5, c6, tab_length, Int.toNat_natCast, tab_set, el_tab hj, eli_tab (show j < L.length + 1 by omega), eli_tab (show j + 1 < L.length + 1 by omega), Bool.and_self, cond_true, if_true, Nat.lt_irrefl, if_false]
    refine congrArg (fun x => some (Sum.inl (((j + 1 : Nat) : Int), x))) (tab_congr fun i hi => ?_)
    by_cases e1 : i = j
    · subst e1
      rw [if_pos rfl, if_pos (by omega)]; rfl
    · rw [if_neg e1, if_neg e1]
      by_cases h2 : i < j
      · rw [if_pos h2, if_pos (by omega)]
      · rw [if_neg h2, if_neg (by omega)])
  rw [← en] at this
  have h0 : ((((0 : Nat) : Int)), tab L.length (fun i => if i < 0 then wS (bL L i) (s i) (s (i + 1)) else bL L i)) = ((0 : Int), L) := by rw [← st, ← hL]; rfl
  rw [h0] at this
  exact this
end
end Go.Proofs.Ytaidlflnkdamkaa
