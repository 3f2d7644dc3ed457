/-
  Layer 44: plans are feasible, and nothing feasible is greater.
-/
import Derived.Test.YtaidlflnkdamkaaAbG
namespace Go.Proofs.Ytaidlflnkdamkaa
open Go
section
variable {L : BkL} {C : List Int} {e : Int}
theorem feaV_false {i : Nat} : feaV L C i = false ↔ (exB (bL L i) - enB (bL L i) ≤ rO L i ∧ enB (bL L i) - exB (bL L i) ≤ rO L i) ∧ (0 < i → enB (bL L i) = exB (bL L (i - 1)) ∧ enB (bL L i) ≤ cI C i) := by
  unfold feaV
  by_cases h1 : max (exB (bL L i) - enB (bL L i)) (enB (bL L i) - exB (bL L i)) > rO L i
  · rw [decide_eq_true h1]
    simp only [cond_true, Bool.true_eq_false, false_iff]
    omega
  · rw [decide_eq_false h1]
    simp only [cond_false]
    by_cases h2 : 0 < i
    · rw [decide_eq_true h2]
      simp only [cond_true]
      by_cases h3 : enB (bL L i) = exB (bL L (i - 1))
      · have : (enB (bL L i) != exB (bL L (i - 1))) = false := by simpa using h3
        rw [this]
        simp only [cond_false, decide_eq_false_iff_not]
        constructor
        · intro h; exact ⟨by omega, fun _ => ⟨h3, by omega⟩⟩
        · intro h; have := (h.2 h2).2; omega
      · have : (enB (bL L i) != exB (bL L (i - 1))) = true := by simpa using h3
        rw [this]
        simp only [cond_true, Bool.true_eq_false, false_iff]
        intro h; exact h3 (h.2 h2).1
    · rw [decide_eq_false h2]
      simp only [cond_false, true_iff]
      exact ⟨by omega, fun h => absurd h h2⟩
theorem feaB_iff : feaB L C e = true ↔ C.length = L.length ∧ (∀ i, i < L.length → valB (bL L i) = true) ∧ (L.length = 0 ∨ ((∀ i, i < L.length → feaV L C i = false) ∧ enB (bL L 0) = e ∧ exB (bL L (L.length - 1)) = 0)) := by
  unfold feaB
  by_cases hl : C.length = L.length
  · have h1 : ((C.length : Int) != (L.length : Int)) = false := by rw [hl]; simp
    rw [h1]
    simp only [cond_false]
    cases hv : L.any (fun b => !valB b)
    · have hvv : ∀ i, i < L.length → valB (bL L i) = true := fun i hi => by
        have h1 := any_false hv hi ((0, 0, 0, 0), 0, 0, 0, 0)
        show valB (L.getD i ((0, 0, 0, 0), 0, 0, 0, 0)) = true
        simpa using h1
      simp only [cond_false]
      by_cases hn : L.length = 0
      · rw [hn]; simp only [Int.ofNat_zero, beq_self_eq_true, cond_true, true_iff]
        exact ⟨by omega, fun i hi => by omega, .inl (by first | rfl | trivial)⟩
      · have h2 : ((L.length : Int) == 0) = false := by simpa using hn
        rw [h2]
        simp only [cond_false]
        cases ha : anyN (feaV L C) L.length
        · have hav := anyN_false.1 ha
          simp only [cond_false]
          by_cases h3 : enB (bL L 0) = e
          · rw [h3]; simp only [beq_self_eq_true, cond_true, beq_iff_eq]
            exact ⟨fun h => ⟨hl, hvv, .inr ⟨hav, (by first | rfl | trivial), h⟩⟩, fun h => by rcases h.2.2 with h | h; exact absurd h hn; exact h.2.2⟩
          · have : (enB (bL L 0) == e) = false := by simpa using h3
            rw [this]
            simp only [cond_false, Bool.false_eq_true, false_iff]
            rintro ⟨_, _, h | h⟩
            · exact hn h
            · exact h3 h.2.1
        · obtain ⟨j, hj, hp⟩ := anyN_true.1 ha
          simp only [cond_true, Bool.false_eq_true, false_iff]
          rintro ⟨_, _, h | h⟩
          · exact hn h
          · rw [h.1 j hj] at hp; cases hp
    · simp only [cond_true, Bool.false_eq_true, false_iff]
      rintro ⟨_, h, _⟩
      rw [List.any_eq_true] at hv
      obtain ⟨b, hb, hnb⟩ := hv
      obtain ⟨i, hi, rfl⟩ := List.getElem_of_mem hb
      have := h i hi
      have e1 : bL L i = L[i] := by
        show L.getD i ((0, 0, 0, 0), 0, 0, 0, 0) = L[i]
        rw [List.getD, List.getElem?_eq_getElem hi]; rfl
      rw [e1] at this
      rw [this] at hnb
      cases hnb
  · have h1 : ((C.length : Int) != (L.length : Int)) = true := by simp; omega
    rw [h1]
    simp only [cond_true, Bool.false_eq_true, false_iff]
    exact fun h => hl h.1
theorem chosen_neg : minL (chosen L C e) < 0 ↔ ∃ i, i ≤ L.length ∧ sq44 L C e i < 0 := by
  unfold minL
  have hlen : (chosen L C e).length = L.length + 1 := tab_length _ _
  rw [hlen, mnF_neg]
  constructor
  · rintro ⟨i, h1, h2⟩
    refine ⟨i, by omega, ?_⟩
    rwa [show (chosen L C e).getD i 0 = sq44 L C e i from tab_getD _ (by omega)] at h2
  · rintro ⟨i, h1, h2⟩
    refine ⟨i, by omega, ?_⟩
    rwa [show (chosen L C e).getD i 0 = sq44 L C e i from tab_getD _ (by omega)]
/-- What is told of a plan. -/
theorem plan_cases (h40 : L.length ≤ 40) (hcap : capOk C) : (planC L C e ≠ 0 ∧ planL L C e = [] ∧ (C.length ≠ L.length ∨ (∃ i, i < L.length ∧ sndB (bL L i) = false) ∨ (L.length ≠ 0 ∧ (e < 0 ∨ e > crB (bL L 0))) ∨ (ChOk L C e ∧ (sq44 L C e 0 < e ∨ ∃ i, i ≤ L.length ∧ sq44 L C e i < 0)))) ∨
    (planC L C e = 0 ∧ C.length = L.length ∧ L.length = 0 ∧ planL L C e = []) ∨ (planC L C e = 0 ∧ ChOk L C e ∧ e ≤ sq44 L C e 0 ∧ (∀ i, i ≤ L.length → 0 ≤ sq44 L C e i) ∧ planL L C e = tab L.length (fun i => wS (bL L i) (sq44 L C e i) (sq44 L C e (i + 1)))) := by
  unfold planC planL
  by_cases hl : C.length = L.length
  · have h1 : ((C.length : Int) != (L.length : Int)) = false := by rw [hl]; simp
    rw [h1]
    simp only [cond_false]
    cases hv : L.any (fun b => !sndB b)
    · have hvv : ∀ i, i < L.length → sndB (bL L i) = true := fun i hi => by
        have h1 := any_false hv hi ((0, 0, 0, 0), 0, 0, 0, 0)
        show sndB (L.getD i ((0, 0, 0, 0), 0, 0, 0, 0)) = true
        simpa using h1
      simp only [cond_false]
      by_cases hn : L.length = 0
      · rw [hn]; simp only [Int.ofNat_zero, beq_self_eq_true, cond_true]
        exact .inr (.inl ⟨(by first | rfl | trivial), by omega, (by first | rfl | trivial), (by first | rfl | trivial)⟩)
      · have h2 : ((L.length : Int) == 0) = false := by simpa using hn
        rw [h2]
        simp only [cond_false]
        by_cases he : e < 0 ∨ e > crB (bL L 0)
        · have : (decide (e < 0) || decide (e > crB (bL L 0))) = true := by simpa using he
          rw [this]
          simp only [cond_true]
          exact .inl ⟨by decide, (by first | rfl | trivial), .inr (.inr (.inl ⟨hn, he⟩))⟩
        · have h3 : (decide (e < 0) || decide (e > crB (bL L 0))) = false := by rw [← Bool.not_eq_true]; simpa using he
          rw [h3]
          simp only [cond_false]
          have ok : ChOk L C e := ⟨by omega, h40, hl, hvv, fun i hi => hcap i (by omega), by omega, by omega⟩
          by_cases hb : sq44 L C e 0 < e ∨ minL (chosen L C e) < 0
          · have : (decide (sq44 L C e 0 < e) || decide (minL (chosen L C e) < 0)) = true := by simpa using hb
            rw [this]
            simp only [cond_true]
            exact .inl ⟨by decide, (by first | rfl | trivial), .inr (.inr (.inr ⟨ok, hb.imp id chosen_neg.1⟩))⟩
          · have h4 : (decide (sq44 L C e 0 < e) || decide (minL (chosen L C e) < 0)) = false := by rw [← Bool.not_eq_true]; simpa using hb
            rw [h4]
            simp only [cond_false]
            refine .inr (.inr ⟨(by first | rfl | trivial), ok, by omega, fun i hi => ?_, (by first | rfl | trivial)⟩)
            have : ¬ ∃ i, i ≤ L.length ∧ sq44 L C e i < 0 := fun h => hb (.inr (chosen_neg.2 h))
            exact Int.not_lt.1 fun h => this ⟨i, hi, h⟩
    · simp only [cond_true]
      refine .inl ⟨by decide, (by first | rfl | trivial), .inr (.inl ?_)⟩
      rw [List.any_eq_true] at hv
      obtain ⟨b, hb, hnb⟩ := hv
      obtain ⟨i, hi, rfl⟩ := List.getElem_of_mem hb
      refine ⟨i, hi, ?_⟩
      have e1 : bL L i = L[i] := by
        show L.getD i ((0, 0, 0, 0), 0, 0, 0, 0) = L[i]
        rw [List.getD, List.getElem?_eq_getElem hi]; rfl
      rw [e1]
      simpa using hnb
  · have h1 : ((C.length : Int) != (L.length : Int)) = true := by simp; omega
    rw [h1]
    simp only [cond_true]
    exact .inl ⟨by decide, (by first | rfl | trivial), .inl hl⟩
/-- The squares of a queue. -/
def tq (L : BkL) (i : Nat) : Int := if i = 0 then enB (bL L 0) else exB (bL L (i - 1))
theorem fea_below (h40 : L.length ≤ 40) (hcap : capOk C) (hf : feaB L C e = true) (hn : L.length ≠ 0) : ChOk L C e ∧ tq L 0 = e ∧ (∀ i, i ≤ L.length → tq L i ≤ sq44 L C e i ∧ 0 ≤ tq L i) ∧ (∀ i, i < L.length → tq L i = enB (bL L i) ∧ tq L (i + 1) = exB (bL L i)) := by
  obtain ⟨hl, hv, h | ⟨hV, h0, hE⟩⟩ := feaB_iff.1 hf
  · exact absurd h hn
  · have v := fun i hi => valB_in (hv i hi)
    have V := fun i hi => feaV_false.1 (hV i hi)
    have t0 : tq L 0 = e := h0
    have ok : ChOk L C e := ⟨by omega, h40, hl, fun i hi => (v i hi).1, fun i hi => hcap i (by omega), by have := v 0 (by omega); omega, by have := v 0 (by omega); omega⟩
    have te : ∀ i, i < L.length → tq L i = enB (bL L i) ∧ tq L (i + 1) = exB (bL L i) := fun i hi => by
      refine ⟨?_, rfl⟩
      unfold tq
      by_cases h0 : i = 0
      · subst h0; rfl
      · rw [if_neg h0]; exact ((V i hi).2 (by omega)).1.symm
    have tn : tq L L.length = 0 := by unfold tq; rw [if_neg hn]; exact hE
    have tm : ∀ i, i ≤ L.length → tq L i ≤ mO L C e L.length i ∧ 0 ≤ tq L i := fun i hi => by
      unfold mO
      by_cases h0 : i = 0
      · subst h0; rw [if_pos rfl, t0]; have := ok.e0; omega
      · rw [if_neg h0]
        by_cases h1 : i < L.length
        · rw [if_pos h1]
          have a := (te i h1).1
          have b : tq L i = exB (bL L (i - 1)) := by unfold tq; rw [if_neg h0]
          have c := (V i h1).2 (by omega)
          have d := v i h1
          have f := v (i - 1) (by omega)
          omega
        · rw [if_neg h1]
          have : i = L.length := by omega
          subst this; rw [tn]; omega
    refine ⟨ok, t0, fun i hi => ⟨?_, (tm i hi).2⟩, te⟩
    exact sS_great L.length (mO L C e L.length) (rO L) (t := tq L) (fun i hi => (tm i hi).1) (fun i hi => by have := (te i hi).1; have := (te i hi).2; have := (V i hi).1; omega) (fun i hi => by have := (te i hi).1; have := (te i hi).2; have := (V i hi).1; omega) i hi
theorem sq_m (h : ChOk L C e) : sq44 L C e 0 ≤ e ∧ sq44 L C e L.length ≤ 0 ∧ ∀ i, 0 < i → i < L.length → sq44 L C e i ≤ cI C i ∧ sq44 L C e i ≤ crB (bL L (i - 1)) ∧ sq44 L C e i ≤ crB (bL L i) := by
  have n1 := h.n1
  refine ⟨?_, ?_, fun i h0 hi => ?_⟩
  · have := sS_m L.length (mO L C e L.length) (rO L) (i := 0) (by omega)
    unfold sq44; unfold mO at this ⊢; simpa using this
  · have := sS_m L.length (mO L C e L.length) (rO L) (i := L.length) (by omega)
    have e1 : mO L C e L.length L.length = 0 := by unfold mO; rw [if_neg (by omega), if_neg (by omega)]
    rw [e1] at this; exact this
  · have := sS_m L.length (mO L C e L.length) (rO L) (i := i) (by omega)
    have e1 : mO L C e L.length i = min (min (cI C i) (crB (bL L (i - 1)))) (crB (bL L i)) := by unfold mO; rw [if_neg (by omega), if_pos hi]
    rw [e1] at this
    unfold sq44
    omega
theorem sq_nb (h : ChOk L C e) {i : Nat} (hi : i < L.length) : sq44 L C e (i + 1) ≤ sq44 L C e i + rO L i ∧ sq44 L C e i ≤ sq44 L C e (i + 1) + rO L i :=
  ⟨sS_up _ _ _ _, sS_dn _ _ _ hi (by have := h.r hi; omega)⟩
/-- A plan is feasible. -/
theorem plan_fea (hk : ChOk L C e) (h0 : e ≤ sq44 L C e 0) (hp : ∀ i, i ≤ L.length → 0 ≤ sq44 L C e i) : feaB (tab L.length (fun i => wS (bL L i) (sq44 L C e i) (sq44 L C e (i + 1)))) C e = true := by
  have n1 := hk.n1
  have hm := sq_m hk
  have hb : ∀ i, i < L.length → bL (tab L.length (fun i => wS (bL L i) (sq44 L C e i) (sq44 L C e (i + 1)))) i = wS (bL L i) (sq44 L C e i) (sq44 L C e (i + 1)) := fun i hi => el_tab hi _
  have hr : ∀ i, i < L.length → rO (tab L.length (fun i => wS (bL L i) (sq44 L C e i) (sq44 L C e (i + 1)))) i = rO L i := fun i hi => by unfold rO; rw [hb i hi]; rfl
  have cr : ∀ i, i ≤ L.length → (0 < i → sq44 L C e i ≤ crB (bL L (i - 1))) ∧ (i < L.length → sq44 L C e i ≤ crB (bL L i)) := fun i hi => by
    by_cases h1 : i = 0
    · subst h1
      refine ⟨fun h => by omega, fun _ => ?_⟩
      have := hk.e1; have := hm.1; omega
    · by_cases h2 : i < L.length
      · have := hm.2.2 i (by omega) h2; exact ⟨fun _ => this.2.1, fun _ => this.2.2⟩
      · have : i = L.length := by omega
        subst this
        refine ⟨fun _ => ?_, fun h => by omega⟩
        have := (hk.r (i := L.length - 1) (by omega)); have := hm.2.1; omega
  rw [feaB_iff, tab_length]
  refine ⟨hk.len, fun i hi => ?_, .inr ⟨fun i hi => ?_, ?_, ?_⟩⟩
  · rw [hb i hi, valB_iff]
    have a := hp i (by omega); have b := hp (i + 1) (by omega)
    have c := (cr i (by omega)).2 hi
    have d := (cr (i + 1) (by omega)).1 (by omega)
    exact ⟨hk.snd i hi, a, c, b, d⟩
  · rw [feaV_false, hb i hi, hr i hi]
    have nb := sq_nb hk hi
    refine ⟨?_, fun h => ?_⟩
    · show sq44 L C e (i + 1) - sq44 L C e i ≤ _ ∧ sq44 L C e i - sq44 L C e (i + 1) ≤ _
      omega
    · rw [hb (i - 1) (by omega)]
      refine ⟨?_, (hm.2.2 i h hi).1⟩
      show sq44 L C e i = sq44 L C e (i - 1 + 1)
      rw [show i - 1 + 1 = i by omega]
  · rw [hb 0 (by omega)]
    show sq44 L C e 0 = e
    have := hm.1; omega
  · rw [hb (L.length - 1) (by omega)]
    show sq44 L C e (L.length - 1 + 1) = 0
    rw [show L.length - 1 + 1 = L.length by omega]
    have := hm.2.1; have := hp L.length (by omega); omega
/-- No square of a plan can be greater alone. -/
theorem sq_tight (hk : ChOk L C e) {i : Nat} (h0 : 0 < i) (hi : i < L.length) : sq44 L C e i = cI C i ∨ sq44 L C e i = crB (bL L (i - 1)) ∨ sq44 L C e i = crB (bL L i) ∨ sq44 L C e i = sq44 L C e (i - 1) + rO L (i - 1) ∨ sq44 L C e i = sq44 L C e (i + 1) + rO L i := by
  obtain ⟨j, rfl⟩ : ∃ j, i = j + 1 := ⟨i - 1, by omega⟩
  rw [show j + 1 - 1 = j by omega]
  have h1 : sq44 L C e (j + 1) = min (bB L.length (mO L C e L.length) (rO L) (j + 1)) (sq44 L C e j + rO L j) := rfl
  have h2 := bB_i L.length (mO L C e L.length) (rO L) hi
  have h3 : sq44 L C e (j + 1 + 1) ≤ bB L.length (mO L C e L.length) (rO L) (j + 1 + 1) := sS_b _ _ _ _
  have h4 := sq_nb hk hi
  have h5 : mO L C e L.length (j + 1) = min (min (cI C (j + 1)) (crB (bL L j))) (crB (bL L (j + 1))) := by unfold mO; rw [if_neg (by omega), if_pos hi, show j + 1 - 1 = j by omega]
  omega
end
end Go.Proofs.Ytaidlflnkdamkaa
