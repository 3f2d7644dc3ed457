/-
  Layer 44: what the loops of choose come to.
-/
import Derived.Test.YtaidlflnkdamkaaAbM
namespace Go.Proofs.Ytaidlflnkdamkaa
open Go
abbrev BkL : Type := (Ty.list (.prod (.prod (.int .i64) (.prod (.int .i64) (.prod (.int .i64) (.int .i64)))) (.prod (.int .i64) (.prod (.int .i64) (.prod (.int .i64) (.int .i64)))))).den
abbrev Bk : Type := (Int × Int × Int × Int) × Int × Int × Int × Int
def crB (b : Bk) : Int := b.2.2.2.1
def rcB (b : Bk) : Int := reach b.1.1 b.1.2.1 b.1.2.2.1 b.1.2.2.2 b.2.1
def sndB (b : Bk) : Bool := sval b.1.1 b.1.2.1 b.1.2.2.1 b.1.2.2.2 b.2.1 b.2.2.2.1
def valB (b : Bk) : Bool := bval b.1.1 b.1.2.1 b.1.2.2.1 b.1.2.2.2 b.2.1 b.2.2.1 b.2.2.2.1 b.2.2.2.2
def bL (L : BkL) (i : Nat) : Bk := el_iiiiiiii L (i : Int)
def cI (C : List Int) (i : Nat) : Int := el_i C (i : Int)
/-- The bounds of the squares: entry, cruises and caps, end. -/
def mO (L : BkL) (C : List Int) (e : Int) (n i : Nat) : Int := if i = 0 then e else if i < n then min (min (cI C i) (crB (bL L (i - 1)))) (crB (bL L i)) else 0
def rO (L : BkL) (i : Nat) : Int := rcB (bL L i)
theorem mul_box {x y X Y : Int} (h : 0 ≤ x ∧ x ≤ X) (g : 0 ≤ y ∧ y ≤ Y) : 0 ≤ x * y ∧ x * y ≤ X * Y :=
  ⟨Int.mul_nonneg h.1 g.1, Int.mul_le_mul h.2 g.2 g.1 (by omega)⟩
theorem rcB_in {b : Bk} (h : sndB b = true) : 2 ≤ rcB b ∧ rcB b ≤ 562949953421312 ∧ 1 ≤ crB b ∧ crB b ≤ 1099511627776 := by
  obtain ⟨⟨a, b, c, d⟩, ac, en, cr, ex⟩ := b
  unfold sndB sval at h
  simp only [Bool.and_eq_true, decide_eq_true_eq] at h
  obtain ⟨hd, h1, h2, h3, h4⟩ := h
  have D := dom_in a b c d
  have D1 := D.2.2 hd
  unfold rcB reach crB
  dsimp only at *
  have w1 : IntKind.wrap IntKind.i64 ((2 : Int) * ac) = 2 * ac := wid (by omega) (by omega)
  rw [w1]
  have m1 := mul_box (x := 2 * ac) (y := dom a b c d) (X := 33554432) (Y := 16777216) ⟨by omega, by omega⟩ ⟨by omega, by omega⟩
  have m2 : 2 * 1 ≤ 2 * ac * dom a b c d := Int.mul_le_mul (by omega) D1 (by omega) (by omega)
  rw [wid (by omega) (by omega)]
  omega
structure ChOk (L : BkL) (C : List Int) (e : Int) : Prop where
  n1 : 1 ≤ L.length
  n40 : L.length ≤ 40
  len : C.length = L.length
  snd : ∀ i, i < L.length → sndB (bL L i) = true
  cap : ∀ i, i < L.length → -9223372036854775808 ≤ cI C i ∧ cI C i ≤ 9223372036854775807
  e0 : 0 ≤ e
  e1 : e ≤ crB (bL L 0)
section
variable {L : BkL} {C : List Int} {e : Int}
theorem ChOk.r (h : ChOk L C e) {i : Nat} (hi : i < L.length) : 2 ≤ rO L i ∧ rO L i ≤ 562949953421312 ∧ 1 ≤ crB (bL L i) ∧ crB (bL L i) ≤ 1099511627776 := rcB_in (h.snd i hi)
theorem ChOk.m (h : ChOk L C e) (i : Nat) : -9223372036854775808 ≤ mO L C e L.length i ∧ mO L C e L.length i ≤ 1099511627776 := by
  unfold mO
  split
  · have := h.r (i := 0) (by have := h.n1; omega)
    have := h.e0; have := h.e1; omega
  · split
    · rename_i h0 hi
      have a := h.r (i := i) hi
      have b := h.r (i := i - 1) (by omega)
      have c := h.cap i hi
      omega
    · omega
theorem cho0_run (h : ChOk L C e) : runC (cho0_step (L, C)) ((1 : Int), tab (L.length + 1) (fun i => if i < 1 then mO L C e L.length i else 0)) = true ∧
    runG (cho0_step (L, C)) ((1 : Int), tab (L.length + 1) (fun i => if i < 1 then mO L C e L.length i else 0)) = (0, ((L.length : Int), tab (L.length + 1) (mO L C e L.length))) := by
  have n1 := h.n1
  have n40 := h.n40
  have fin : tab (L.length + 1) (fun i => if i < L.length then mO L C e L.length i else 0) = tab (L.length + 1) (mO L C e L.length) := tab_congr fun i hi => by
    by_cases hn : i < L.length
    · rw [if_pos hn]
    · rw [if_neg hn]; unfold mO; rw [if_neg (by omega), if_neg hn]
  rw [← fin]
  refine run_steps (St := fun j => ((j : Int) + 1, tab (L.length + 1) (fun i => if i < j + 1 then mO L C e L.length i else 0))) (n := L.length - 1) ?_ (L.length - 1) 0 (by omega) ?_
  · have e1 : ((L.length - 1 : Nat) : Int) + 1 = L.length := by omega
    have e2 : L.length - 1 + 1 = L.length := by omega
    rw [e1, e2]
    simp only [cho0_step, Tr.val, Int.lt_irrefl, decide_false, cond_false]
  · intro j _ hj
    have c1 : decide ((j : Int) + 1 < (L.length : Int)) = true := by simp; omega
    have w1 : IntKind.wrap IntKind.i64 ((j : Int) + 1 - 1) = (j : Int) := by rw [wid (by omega) (by omega)]; omega
    have w2 : IntKind.wrap IntKind.i64 ((j : Int) + 1 + 1) = ((j + 1 : Nat) : Int) + 1 := by rw [wid (by omega) (by omega)]; omega
    have c2 : decide ((0 : Int) ≤ (j : Int)) = true := by simp
    have c3 : decide ((j : Int) < (L.length : Int)) = true := by simp; omega
    have c4 : decide ((0 : Int) ≤ (j : Int) + 1) = true := by simp; omega
    have c5 : decide ((j : Int) + 1 < (C.length : Int)) = true := by have := h.len; simp; omega
    have c6 : decide ((j : Int) + 1 < ((L.length + 1 : Nat) : Int)) = true := by simp; omega
    have t1 : Int.toNat ((j : Int) + 1) = j + 1 := by omega
    have c7 : decide (j + 1 < L.length + 1) = true := by simp; omega
    simp only [cho0_step, Tr.val, c1, w1, w2, c2, c3, c4, c5, tab_length, c6, t1, c7, Bool.and_self, cond_true, ite_min, tab_set]
    refine congrArg (fun x => some (Sum.inl (((j + 1 : Nat) : Int) + 1, x))) (tab_congr fun i hi => ?_)
    by_cases hij : i = j + 1
    · subst hij
      rw [if_pos rfl, if_pos (by omega)]
      unfold mO
      rw [if_neg (by omega), if_pos (by omega)]
      show min (min (crB (bL L j)) (crB (bL L (j + 1)))) (cI C (j + 1)) = _
      rw [show j + 1 - 1 = j by omega]
      omega
    · rw [if_neg hij]
      by_cases h2 : i < j + 1
      · rw [if_pos h2, if_pos (by omega)]
      · rw [if_neg h2, if_neg (by omega)]
theorem cho1_run (h : ChOk L C e) : runC (cho1_step L) (((L.length : Int) - 1), tab (L.length + 1) (mO L C e L.length)) = true ∧
    runG (cho1_step L) (((L.length : Int) - 1), tab (L.length + 1) (mO L C e L.length)) = (0, ((-1 : Int), tab (L.length + 1) (bB L.length (mO L C e L.length) (rO L)))) := by
  have n1 := h.n1
  have n40 := h.n40
  have st : tab (L.length + 1) (mO L C e L.length) = tab (L.length + 1) (fun i => if i + 0 < L.length then mO L C e L.length i else bB L.length (mO L C e L.length) (rO L) i) := tab_congr fun i hi => by
    by_cases hn : i < L.length
    · rw [if_pos (by omega)]
    · have : i = L.length := by omega
      subst this
      rw [if_neg (by omega), bB_n]
  have en : tab (L.length + 1) (bB L.length (mO L C e L.length) (rO L)) = tab (L.length + 1) (fun i => if i + L.length < L.length then mO L C e L.length i else bB L.length (mO L C e L.length) (rO L) i) := tab_congr fun i hi => by rw [if_neg (by omega)]
  rw [st, en]
  have := run_steps (step := cho1_step L) (St := fun j => ((L.length : Int) - 1 - (j : Int), tab (L.length + 1) (fun i => if i + j < L.length then mO L C e L.length i else bB L.length (mO L C e L.length) (rO L) i))) (n := L.length) (t := (0, ((-1 : Int), tab (L.length + 1) (fun i => if i + L.length < L.length then mO L C e L.length i else bB L.length (mO L C e L.length) (rO L) i)))) ?_ L.length 0 (by omega) ?_
  · simpa using this
  · have e1 : (L.length : Int) - 1 - (L.length : Int) = -1 := by omega
    rw [e1]
    have c1 : decide ((-1 : Int) ≥ 0) = false := by simp
    simp only [cho1_step, Tr.val, c1, cond_false]
  · intro j _ hj
    generalize hq : (L.length : Int) - 1 - (j : Int) = q
    obtain ⟨p, rfl⟩ : ∃ p : Nat, q = (p : Int) := ⟨L.length - 1 - j, by omega⟩
    have hp : p + j + 1 = L.length := by omega
    have c1 : decide ((p : Int) ≥ 0) = true := by simp
    have w1 : IntKind.wrap IntKind.i64 ((p : Int) + 1) = ((p + 1 : Nat) : Int) := by rw [wid (by omega) (by omega)]; omega
    have w2 : IntKind.wrap IntKind.i64 ((p : Int) - 1) = (L.length : Int) - 1 - ((j + 1 : Nat) : Int) := by rw [wid (by omega) (by omega)]; omega
    have c2 : decide ((0 : Int) ≤ (p : Int)) = true := by simp
    have c3 : decide ((p : Int) < (L.length : Int)) = true := by simp; omega
    have c4 : decide ((p : Int) < ((L.length + 1 : Nat) : Int)) = true := by simp; omega
    have c5 : decide (((p + 1 : Nat) : Int) < ((L.length + 1 : Nat) : Int)) = true := by simp; omega
    have c6 : decide ((0 : Int) ≤ ((p + 1 : Nat) : Int)) = true := by simp; omega
    have c7 : decide (p < L.length + 1) = true := by simp; omega
    have c8 : decide (p + 1 < L.length + 1) = true := by simp; omega
    have g1 : el_i (tab (L.length + 1) (fun i => if i + j < L.length then mO L C e L.length i else bB L.length (mO L C e L.length) (rO L) i)) ((p + 1 : Nat) : Int) = bB L.length (mO L C e L.length) (rO L) (p + 1) := by
      unfold el_i; rw [elm_nat, tab_getD _ (by omega), if_neg (by omega)]
    have g2 : el_i (tab (L.length + 1) (fun i => if i + j < L.length then mO L C e L.length i else bB L.length (mO L C e L.length) (rO L) i)) (p : Int) = mO L C e L.length p := by
      unfold el_i; rw [elm_nat, tab_getD _ (by omega), if_pos (by omega)]
    have hr := h.r (i := p) (by omega)
    have hB : -9223372036854775808 ≤ bB L.length (mO L C e L.length) (rO L) (p + 1) ∧ bB L.length (mO L C e L.length) (rO L) (p + 1) ≤ 1099511627776 :=
      ⟨bB_low _ _ _ (fun i _ => (h.m i).1) (fun i hi => by have := h.r hi; omega) (by omega), Int.le_trans (bB_m _ _ _ (by omega)) (h.m _).2⟩
    have w3 : IntKind.wrap IntKind.i64 (bB L.length (mO L C e L.length) (rO L) (p + 1) + rO L p) = bB L.length (mO L C e L.length) (rO L) (p + 1) + rO L p := wid (by omega) (by omega)
    have rr : reach (Prod.fst (Prod.fst (el_iiiiiiii L (p : Int)))) (Prod.fst (Prod.snd (Prod.fst (el_iiiiiiii L (p : Int))))) (Prod.fst (Prod.snd (Prod.snd (Prod.fst (el_iiiiiiii L (p : Int)))))) (Prod.snd (Prod.snd (Prod.snd (Prod.fst (el_iiiiiiii L (p : Int)))))) (Prod.fst (Prod.snd (el_iiiiiiii L (p : Int)))) = rO L p := rfl
    simp only [cho1_step, Tr.val, c1, w1, w2, c2, c3, c4, c5, c6, tab_length, c7, c8, Bool.and_self, cond_true, Int.toNat_natCast, g1, g2, rr, w3, ite_min, tab_set]
    refine congrArg (fun x => some (Sum.inl ((L.length : Int) - 1 - ((j + 1 : Nat) : Int), x))) (tab_congr fun i hi => ?_)
    by_cases hij : i = p
    · subst hij
      rw [if_pos rfl, if_neg (by omega)]
      exact (bB_i _ _ _ (by omega)).symm
    · rw [if_neg hij]
      by_cases h2 : i + j < L.length
      · rw [if_pos h2, if_pos (by omega)]
      · rw [if_neg h2, if_neg (by omega)]
theorem cho2_run (h : ChOk L C e) : runC (cho2_step (L, (L.length : Int))) ((0 : Int), tab (L.length + 1) (bB L.length (mO L C e L.length) (rO L))) = true ∧
    runG (cho2_step (L, (L.length : Int))) ((0 : Int), tab (L.length + 1) (bB L.length (mO L C e L.length) (rO L))) = (0, ((L.length : Int), tab (L.length + 1) (sS L.length (mO L C e L.length) (rO L)))) := by
  have n1 := h.n1
  have n40 := h.n40
  have st : tab (L.length + 1) (bB L.length (mO L C e L.length) (rO L)) = tab (L.length + 1) (fun i => if i ≤ 0 then sS L.length (mO L C e L.length) (rO L) i else bB L.length (mO L C e L.length) (rO L) i) := tab_congr fun i hi => by
    by_cases hn : i = 0
    · subst hn; rw [if_pos (by omega)]; rfl
    · rw [if_neg (by omega)]
  have en : tab (L.length + 1) (sS L.length (mO L C e L.length) (rO L)) = tab (L.length + 1) (fun i => if i ≤ L.length then sS L.length (mO L C e L.length) (rO L) i else bB L.length (mO L C e L.length) (rO L) i) := tab_congr fun i hi => by rw [if_pos (by omega)]
  rw [st, en]
  have := run_steps (step := cho2_step (L, (L.length : Int))) (St := fun j => ((j : Int), tab (L.length + 1) (fun i => if i ≤ j then sS L.length (mO L C e L.length) (rO L) i else bB L.length (mO L C e L.length) (rO L) i))) (n := L.length) (t := (0, ((L.length : Int), tab (L.length + 1) (fun i => if i ≤ L.length then sS L.length (mO L C e L.length) (rO L) i else bB L.length (mO L C e L.length) (rO L) i)))) ?_ L.length 0 (by omega) ?_
  · simpa using this
  · simp only [cho2_step, Tr.val, Int.lt_irrefl, decide_false, cond_false]
  · intro p _ hj
    have w1 : IntKind.wrap IntKind.i64 ((p : Int) + 1) = ((p + 1 : Nat) : Int) := by rw [wid (by omega) (by omega)]; omega
    have c2 : decide ((0 : Int) ≤ (p : Int)) = true := by simp
    have c3 : decide ((p : Int) < (L.length : Int)) = true := by simp; omega
    have c4 : decide ((p : Int) < ((L.length + 1 : Nat) : Int)) = true := by simp; omega
    have c5 : decide (((p + 1 : Nat) : Int) < ((L.length + 1 : Nat) : Int)) = true := by simp; omega
    have c6 : decide ((0 : Int) ≤ ((p + 1 : Nat) : Int)) = true := by simp; omega
    have c7 : decide (p < L.length + 1) = true := by simp; omega
    have c8 : decide (p + 1 < L.length + 1) = true := by simp; omega
    have g1 : el_i (tab (L.length + 1) (fun i => if i ≤ p then sS L.length (mO L C e L.length) (rO L) i else bB L.length (mO L C e L.length) (rO L) i)) ((p + 1 : Nat) : Int) = bB L.length (mO L C e L.length) (rO L) (p + 1) := by
      unfold el_i; rw [elm_nat, tab_getD _ (by omega), if_neg (by omega)]
    have g2 : el_i (tab (L.length + 1) (fun i => if i ≤ p then sS L.length (mO L C e L.length) (rO L) i else bB L.length (mO L C e L.length) (rO L) i)) (p : Int) = sS L.length (mO L C e L.length) (rO L) p := by
      unfold el_i; rw [elm_nat, tab_getD _ (by omega), if_pos (by omega)]
    have hr := h.r (i := p) (by omega)
    have hS : -9223372036854775808 ≤ sS L.length (mO L C e L.length) (rO L) p ∧ sS L.length (mO L C e L.length) (rO L) p ≤ 1099511627776 :=
      ⟨sS_low _ _ _ (fun i _ => (h.m i).1) (fun i hi => by have := h.r hi; omega) (by omega), Int.le_trans (sS_m _ _ _ (by omega)) (h.m _).2⟩
    have w3 : IntKind.wrap IntKind.i64 (sS L.length (mO L C e L.length) (rO L) p + rO L p) = sS L.length (mO L C e L.length) (rO L) p + rO L p := wid (by omega) (by omega)
    have rr : reach (Prod.fst (Prod.fst (el_iiiiiiii L (p : Int)))) (Prod.fst (Prod.snd (Prod.fst (el_iiiiiiii L (p : Int))))) (Prod.fst (Prod.snd (Prod.snd (Prod.fst (el_iiiiiiii L (p : Int)))))) (Prod.snd (Prod.snd (Prod.snd (Prod.fst (el_iiiiiiii L (p : Int)))))) (Prod.fst (Prod.snd (el_iiiiiiii L (p : Int)))) = rO L p := rfl
    simp only [cho2_step, Tr.val, w1, c2, c3, c4, c5, c6, tab_length, c7, c8, Bool.and_self, cond_true, Int.toNat_natCast, g1, g2, rr, w3, ite_min, tab_set]
    refine congrArg (fun x => some (Sum.inl (((p + 1 : Nat) : Int), x))) (tab_congr fun i hi => ?_)
    by_cases hij : i = p + 1
    · subst hij
      rw [if_pos rfl, if_pos (by omega)]
      rfl
    · rw [if_neg hij]
      by_cases h2 : i ≤ p
      · rw [if_pos h2, if_pos (by omega)]
      · rw [if_neg h2, if_neg (by omega)]
end
end Go.Proofs.Ytaidlflnkdamkaa
