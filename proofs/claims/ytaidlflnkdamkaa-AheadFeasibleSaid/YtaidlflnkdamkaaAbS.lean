/-
  Layer 44: the document's Feasible and Plan are the program's.
-/
import Derived.Test.YtaidlflnkdamkaaAbR
namespace Go.Proofs.Ytaidlflnkdamkaa
open Go
theorem wz_eq {x y : Int} (h1 : 0 ≤ x ∧ x ≤ 1099511627776) (h2 : 0 ≤ y ∧ y ≤ 1099511627776) : wz x y = max (y - x) (x - y) := by
  unfold wz
  have w1 : IntKind.wrap IntKind.i64 (y - x) = y - x := wid (by omega) (by omega)
  have w2 : IntKind.wrap IntKind.i64 ((0 : Int) - (y - x)) = x - y := by rw [wid (by omega) (by omega)]; omega
  rw [w1, w2, ite_max]
section
variable {L : BkL} {C : List Int} {e : Int}
/-- What a choice is. -/
def Cho (L : BkL) (C : List Int) (e : Int) (f : Nat → Int) : Prop := f 0 = e ∧ f L.length = 0 ∧ (∀ i, i ≤ L.length → 0 ≤ f i) ∧ (∀ i, i < L.length → f i ≤ crB (bL L i) ∧ f (i + 1) ≤ crB (bL L i)) ∧ (∀ i, 0 < i → i < L.length → f i ≤ cI C i) ∧ (∀ i, i < L.length → f (i + 1) - f i ≤ rO L i ∧ f i - f (i + 1) ≤ rO L i)
theorem sI_tab {n i : Nat} (hi : i < n) (f : Nat → Int) : sI (tab n f) i = f i := tab_getD _ hi
theorem chV_or {s : List Int} {i : Nat} : chV L C s i = false ↔ 0 ≤ sI s i ∧ (i < L.length → sI s i ≤ crB (bL L i)) ∧ (0 < i → sI s i ≤ crB (bL L (i - 1))) ∧ (0 < i → i < L.length → sI s i ≤ cI C i) ∧ (i < L.length → wz (sI s i) (sI s (i + 1)) ≤ rO L i) := by
  unfold chV
  simp only [Bool.or_eq_false_iff, Bool.and_eq_false_iff, decide_eq_false_iff_not]
  constructor
  · rintro ⟨a, b, c, d, f⟩
    exact ⟨by omega, fun h => by omega, fun h => by omega, fun h g => by omega, fun h => by omega⟩
  · rintro ⟨a, b, c, d, f⟩
    refine ⟨by omega, ?_, ?_, ?_, ?_⟩
    · by_cases h : i < L.length
      · have := b h; exact .inr (by omega)
      · exact .inl h
    · by_cases h : 0 < i
      · have := c h; exact .inr (by omega)
      · exact .inl h
    · by_cases h : 0 < i
      · by_cases g : i < L.length
        · have := d h g; exact .inr (.inr (by omega))
        · exact .inr (.inl g)
      · exact .inl h
    · by_cases h : i < L.length
      · have := f h; exact .inr (by omega)
      · exact .inl h
theorem choB_iff (n1 : 1 ≤ L.length) (hs : ∀ i, i < L.length → sndB (bL L i) = true) {f : Nat → Int} : choB L C e (tab (L.length + 1) f) = true ↔ Cho L C e f := by
  have cr := fun i hi => rcB_in (hs i hi)
  have hch : choB L C e (tab (L.length + 1) f) = true ↔ f 0 = e ∧ f L.length = 0 ∧ ∀ i, i < L.length + 1 → chV L C (tab (L.length + 1) f) i = false := by
    unfold choB
    rw [sI_tab (by omega), sI_tab (by omega)]
    by_cases h0 : f 0 = e
    · rw [bne_f h0]
      simp only [cond_false]
      by_cases h1 : f L.length = 0
      · rw [bne_f h1]
        simp only [cond_false, Bool.not_eq_true', anyN_false]
        exact ⟨fun h => ⟨h0, h1, h⟩, fun h => h.2.2⟩
      · rw [bne_t h1]
        simp only [cond_true, Bool.false_eq_true, false_iff]
        exact fun h => h1 h.2.1
    · rw [bne_t h0]
      simp only [cond_true, Bool.false_eq_true, false_iff]
      exact fun h => h0 h.1
  rw [hch]
  constructor
  · rintro ⟨h0, h1, h⟩
    have V : ∀ i, i ≤ L.length → 0 ≤ f i ∧ (i < L.length → f i ≤ crB (bL L i)) ∧ (0 < i → f i ≤ crB (bL L (i - 1))) ∧ (0 < i → i < L.length → f i ≤ cI C i) ∧ (i < L.length → wz (f i) (f (i + 1)) ≤ rO L i) := fun i hi => by
      have := chV_or.1 (h i (by omega))
      rw [sI_tab (by omega)] at this
      refine ⟨this.1, this.2.1, this.2.2.1, this.2.2.2.1, fun g => ?_⟩
      have q := this.2.2.2.2 g
      rwa [sI_tab (by omega)] at q
    have cc : ∀ i, i < L.length → f i ≤ crB (bL L i) ∧ f (i + 1) ≤ crB (bL L i) := fun i hi => ⟨(V i (by omega)).2.1 hi, by have := (V (i + 1) (by omega)).2.2.1 (by omega); rwa [show i + 1 - 1 = i by omega] at this⟩
    refine ⟨h0, h1, fun i hi => (V i hi).1, cc, fun i g hi => (V i (by omega)).2.2.2.1 g hi, fun i hi => ?_⟩
    have a := (V i (by omega)).2.2.2.2 hi
    have b := cc i hi
    have c := cr i hi
    have d := (V i (by omega)).1
    have d' := (V (i + 1) (by omega)).1
    rw [wz_eq ⟨d, by omega⟩ ⟨d', by omega⟩] at a
    omega
  · rintro ⟨h0, h1, hp, hc, hk, hr⟩
    refine ⟨h0, h1, fun i hi => chV_or.2 ?_⟩
    rw [sI_tab (by omega)]
    refine ⟨hp i (by omega), fun g => (hc i g).1, fun g => ?_, fun g g2 => hk i g g2, fun g => ?_⟩
    · have := (hc (i - 1) (by omega)).2
      rwa [show i - 1 + 1 = i by omega] at this
    · rw [sI_tab (by omega)]
      have b := hc i g
      have c := cr i g
      rw [wz_eq ⟨hp i (by omega), by omega⟩ ⟨hp (i + 1) (by omega), by omega⟩]
      have := hr i g
      omega
theorem grt_tab (hk : ChOk L C e) : ∃ G, grt L C e = tab (L.length + 1) G ∧ GI L C e G ∧ ∀ j, 0 < j → j < L.length → nb L G j := by
  obtain ⟨_, G, b, h1, h2, h3⟩ := gre1_run hk
  exact ⟨G, by unfold grt; rw [h1], h2, h3⟩
theorem grt_ok (hk : ChOk L C e) (h0 : e ≤ sq44 L C e 0) (hp : ∀ i, i ≤ L.length → 0 ≤ sq44 L C e i) : grt L C e = chosen L C e ∧ choB L C e (grt L C e) = true := by
  have n1 := hk.n1
  obtain ⟨G, hG, gi, gn⟩ := grt_tab hk
  have SB : Below L C e (sq44 L C e) := ⟨fun i hi => sS_m _ _ _ hi, fun i hi => (sq_nb hk hi).2, fun i hi => (sq_nb hk hi).1⟩
  have SG := gi.up _ SB
  have hm := sq_m hk
  have GB : Below L C e G := by
    refine ⟨gi.m, fun i hi => ?_, fun i hi => ?_⟩
    · by_cases h : i = 0
      · subst h
        have a := (sq_nb hk hi).2; have b := SG 1 (by omega); have c := gi.z
        simp only [Nat.zero_add] at *
        omega
      · exact (gn i (by omega) hi).2
    · by_cases h : i + 1 < L.length
      · have := (gn (i + 1) (by omega) h).1
        rwa [show i + 1 - 1 = i by omega] at this
      · have e1 : i + 1 = L.length := by omega
        have a := (sq_nb hk hi).1; have b := SG i (by omega); have c := gi.n
        have d := hp (i + 1) (by omega)
        rw [e1] at *
        omega
  have GS := sS_great L.length (mO L C e L.length) (rO L) GB.1 GB.2.1 GB.2.2
  have EQ : ∀ i, i ≤ L.length → G i = sq44 L C e i := fun i hi => Int.le_antisymm (GS i hi) (SG i hi)
  have hE : grt L C e = chosen L C e := by rw [hG]; exact tab_congr fun i hi => EQ i (by omega)
  refine ⟨hE, ?_⟩
  rw [hE]
  show choB L C e (tab (L.length + 1) (sq44 L C e)) = true
  rw [choB_iff n1 hk.snd]
  have cr : ∀ i, i ≤ L.length → (0 < i → sq44 L C e i ≤ crB (bL L (i - 1))) ∧ (i < L.length → sq44 L C e i ≤ crB (bL L i)) := fun i hi => by
    by_cases h1 : i = 0
    · subst h1
      refine ⟨fun h => by omega, fun _ => ?_⟩
      have := hk.e1; have := hm.1; omega
    · by_cases h2 : i < L.length
      · have := hm.2.2 i (by omega) h2; exact ⟨fun _ => this.2.1, fun _ => this.2.2⟩
      · have : i = L.length := by omega
        subst this
        refine ⟨fun _ => ?_, fun h => by omega⟩
        have := (hk.r (i := L.length - 1) (by omega)); have := hm.2.1; omega
  refine ⟨by have := hm.1; omega, by have := hm.2.1; have := hp L.length (by omega); omega, hp, fun i hi => ⟨(cr i (by omega)).2 hi, ?_⟩, fun i h hi => (hm.2.2 i h hi).1, fun i hi => ?_⟩
  · have := (cr (i + 1) (by omega)).1 (by omega)
    rwa [show i + 1 - 1 = i by omega] at this
  · have := sq_nb hk hi; omega
theorem grt_bad (hk : ChOk L C e) (h : sq44 L C e 0 < e ∨ ∃ i, i ≤ L.length ∧ sq44 L C e i < 0) : choB L C e (grt L C e) = false := by
  rw [← Bool.not_eq_true]; intro hc
  obtain ⟨G, hG, gi, gn⟩ := grt_tab hk
  rw [hG, choB_iff hk.n1 hk.snd] at hc
  obtain ⟨h0, h1, hp, _, _, hr⟩ := hc
  have GS := sS_great L.length (mO L C e L.length) (rO L) gi.m (fun i hi => by have := hr i hi; omega) (fun i hi => by have := hr i hi; omega)
  rcases h with h | ⟨i, hi, h⟩
  · have : G 0 ≤ sq44 L C e 0 := GS 0 (by omega); omega
  · have : G i ≤ sq44 L C e i := GS i hi
    have := hp i hi; omega
/-- A queue whose blocks fit together is feasible just where its squares are a choice. -/
theorem fea_cho (n1 : 1 ≤ L.length) (hl : C.length = L.length) (hv : ∀ i, i < L.length → valB (bL L i) = true) (hm : ∀ i, 0 < i → i < L.length → enB (bL L i) = exB (bL L (i - 1))) : choB L C e (tab (L.length + 1) (tq L)) = feaB L C e := by
  have v := fun i hi => valB_in (hv i hi)
  have te : ∀ i, i < L.length → tq L i = enB (bL L i) ∧ tq L (i + 1) = exB (bL L i) := fun i hi => by
    refine ⟨?_, rfl⟩
    unfold tq
    by_cases h0 : i = 0
    · subst h0; rfl
    · rw [if_neg h0]; exact (hm i (by omega) hi).symm
  rw [Bool.eq_iff_iff, choB_iff n1 (fun i hi => (v i hi).1), feaB_iff]
  have tn : tq L L.length = exB (bL L (L.length - 1)) := by unfold tq; rw [if_neg (by omega)]
  constructor
  · rintro ⟨h0, h1, hp, hc, hk, hr⟩
    refine ⟨hl, hv, .inr ⟨fun i hi => feaV_false.2 ⟨?_, fun h => ⟨hm i h hi, ?_⟩⟩, h0, by rw [← tn]; exact h1⟩⟩
    · have := te i hi; have := hr i hi; omega
    · have := te i hi; have := hk i h hi; omega
  · rintro ⟨_, _, h | ⟨hV, h0, hE⟩⟩
    · omega
    · have V := fun i hi => feaV_false.1 (hV i hi)
      refine ⟨h0, by rw [tn]; exact hE, fun i hi => ?_, fun i hi => ?_, fun i h hi => ?_, fun i hi => ?_⟩
      · by_cases h : i < L.length
        · have := te i h; have := v i h; omega
        · have : i = L.length := by omega
          subst this; rw [tn, hE]; omega
      · have := te i hi; have := v i hi; omega
      · have := te i hi; have := (V i hi).2 h; omega
      · have := te i hi; have := (V i hi).1; omega
def rfV (L : BkL) (i : Nat) : Bool := bif !valB (bL L i) then true else bif decide (0 < i) then enB (bL L i) != exB (bL L (i - 1)) else false
theorem rfe_run (n1 : 1 ≤ L.length) (h40 : L.length ≤ 40) : rfe_cond (L, C, e, L, (L.length : Int)) (false, (0 : Int), [enB (bL L 0)]) = true ∧ ∃ k x y, rfe_g (L, C, e, L, (L.length : Int)) (false, (0 : Int), [enB (bL L 0)]) = (k, (false, x, y)) ∧ ((k = 0 ∧ ∃ j, j < L.length ∧ rfV L j = true) ∨ (k = 1 ∧ y = tab (L.length + 1) (tq L) ∧ ∀ j, j < L.length → rfV L j = false)) := by
  obtain ⟨h1, h2⟩ := run_first (step := rfe_step (L, C, e, L, (L.length : Int))) (St := fun j => (false, (j : Int), tab (j + 1) (tq L))) (out := fun j => (0, (false, (j : Int), tab (j + 1) (tq L)))) (p := rfV L) (n := L.length) (t := (1, (false, (L.length : Int), tab (L.length + 1) (tq L)))) (fun j hj => by
      have c1 : decide ((j : Int) < (L.length : Int)) = true := decide_eq_true (by omega)
      have c2 : decide ((0 : Int) ≤ (j : Int)) = true := decide_eq_true (by omega)
      have w1 : IntKind.wrap IntKind.i64 ((j : Int) + 1) = ((j + 1 : Nat) : Int) := by rw [wid (by omega) (by omega)]; omega
      have c6 : (decide ((j + 1 + 1) * 8 ≤ maxNew) && decide (j + 1 + 1 ≤ maxLen)) = true := by simp only [Bool.and_eq_true, decide_eq_true_eq]; exact ⟨by simp [maxNew]; omega, by simp [maxLen]; omega⟩
      have f0 : bval (Prod.fst (Prod.fst (el_iiiiiiii L (j : Int)))) (Prod.fst (Prod.snd (Prod.fst (el_iiiiiiii L (j : Int))))) (Prod.fst (Prod.snd (Prod.snd (Prod.fst (el_iiiiiiii L (j : Int)))))) (Prod.snd (Prod.snd (Prod.snd (Prod.fst (el_iiiiiiii L (j : Int)))))) (Prod.fst (Prod.snd (el_iiiiiiii L (j : Int)))) (enB (bL L j)) (Prod.fst (Prod.snd (Prod.snd (Prod.snd (el_iiiiiiii L (j : Int)))))) (exB (bL L j)) = valB (bL L j) := rfl
      have f1 : Prod.fst (Prod.snd (Prod.snd (el_iiiiiiii L (j : Int)))) = enB (bL L j) := rfl
      have f2 : Prod.snd (Prod.snd (Prod.snd (Prod.snd (el_iiiiiiii L (j : Int))))) = exB (bL L j) := rfl
      have ap : tab (j + 1) (tq L) ++ [exB (bL L j)] = tab (j + 1 + 1) (tq L) := by rw [tab_succ (j + 1)]; rfl
      simp only [rfe_step, Tr.val, c1, c2, w1, f0, f1, f2, tab_length, c6, ap, Bool.and_self, cond_true]
      unfold rfV
      cases valB (bL L j) with
      | false => rfl
      | true =>
        cases j with
        | zero => rfl
        | succ i =>
          have d6 : decide (((i + 1 : Nat) : Int) > 0) = true := decide_eq_true (by omega)
          have d7 : decide (0 < i + 1) = true := decide_eq_true (by omega)
          have w2 : IntKind.wrap IntKind.i64 (((i + 1 : Nat) : Int) - 1) = (i : Int) := by rw [wid (by omega) (by omega)]; omega
          have d8 : decide ((0 : Int) ≤ (i : Int)) = true := decide_eq_true (by omega)
          have d9 : decide ((i : Int) < (L.length : Int)) = true := decide_eq_true (by omega)
          have f6 : Prod.snd (Prod.snd (Prod.snd (Prod.snd (el_iiiiiiii L (i : Int))))) = exB (bL L (i + 1 - 1)) := by rw [show i + 1 - 1 = i by omega]; rfl
          simp only [d6, d7, w2, d8, d9, f6, Bool.and_self, Bool.not_true, cond_true, cond_false])
    (by simp only [rfe_step, Tr.val, Int.lt_irrefl, decide_false, cond_false])
  refine ⟨h1, ?_⟩
  rcases h2 with ⟨j, hj, hp, _, h3⟩ | ⟨hp, h3⟩
  · exact ⟨0, _, _, h3, .inl ⟨rfl, j, hj, hp⟩⟩
  · exact ⟨1, _, _, h3, .inr ⟨rfl, rfl, hp⟩⟩
theorem rpl0_run (h40 : L.length ≤ 40) : rpl0_cond (L, C, e, L, (L.length : Int)) ((0 : Int), (0 : Int)) = true ∧ ∃ k x y, rpl0_g (L, C, e, L, (L.length : Int)) ((0 : Int), (0 : Int)) = (k, (x, y)) ∧ ((k = 0 ∧ x = 1 ∧ ∃ j, j < L.length ∧ sndB (bL L j) = false) ∨ (k = 1 ∧ x = 0 ∧ ∀ j, j < L.length → sndB (bL L j) = true)) := by
  obtain ⟨h1, h2⟩ := run_first (step := rpl0_step (L, C, e, L, (L.length : Int))) (St := fun j => ((0 : Int), (j : Int))) (out := fun j => (0, ((1 : Int), (j : Int)))) (p := fun j => !sndB (bL L j)) (n := L.length) (t := (1, ((0 : Int), (L.length : Int)))) (fun j hj => by
      have c1 : decide ((j : Int) < (L.length : Int)) = true := decide_eq_true (by omega)
      have c2 : decide ((0 : Int) ≤ (j : Int)) = true := decide_eq_true (by omega)
      have w1 : IntKind.wrap IntKind.i64 ((j : Int) + 1) = ((j + 1 : Nat) : Int) := by rw [wid (by omega) (by omega)]; omega
      simp only [rpl0_step, Tr.val, c1, c2, w1, Bool.and_self, cond_true]
      rfl)
    (by simp only [rpl0_step, Tr.val, Int.lt_irrefl, decide_false, cond_false])
  refine ⟨h1, ?_⟩
  rcases h2 with ⟨j, hj, hp, _, h3⟩ | ⟨hp, h3⟩
  · exact ⟨0, _, _, h3, .inl ⟨rfl, rfl, j, hj, by simpa using hp⟩⟩
  · exact ⟨1, _, _, h3, .inr ⟨rfl, rfl, fun j hj => by simpa using hp j hj⟩⟩
theorem rpl1_run (h40 : L.length ≤ 40) {s : Nat → Int} {z : Int} : rpl1_cond (z, tab (L.length + 1) s, (L.length : Int)) ((0 : Int), L) = true ∧ rpl1_g (z, tab (L.length + 1) s, (L.length : Int)) ((0 : Int), L) = (0, ((L.length : Int), tab L.length (fun i => wS (bL L i) (s i) (s (i + 1))))) := by
  have st : tab L.length (bL L) = tab L.length (fun i => if i < 0 then wS (bL L i) (s i) (s (i + 1)) else bL L i) := tab_congr fun i _ => by rw [if_neg (by omega)]
  have en : tab L.length (fun i => wS (bL L i) (s i) (s (i + 1))) = tab L.length (fun i => if i < L.length then wS (bL L i) (s i) (s (i + 1)) else bL L i) := tab_congr fun i hi => by rw [if_pos hi]
  have hL := bL_tab L
  have := run_steps (step := rpl1_step (z, tab (L.length + 1) s, (L.length : Int))) (St := fun j => ((j : Int), tab L.length (fun i => if i < j then wS (bL L i) (s i) (s (i + 1)) else bL L i))) (n := L.length) (t := (0, ((L.length : Int), tab L.length (fun i => if i < L.length then wS (bL L i) (s i) (s (i + 1)) else bL L i)))) (by
    simp only [rpl1_step, Tr.val, Int.lt_irrefl, decide_false, cond_false]) L.length 0 (Nat.zero_add _) (fun j _ hj => by
    have c1 : decide ((j : Int) < (L.length : Int)) = true := decide_eq_true (by omega)
    have c2 : decide ((0 : Int) ≤ (j : Int)) = true := decide_eq_true (by omega)
    have w1 : IntKind.wrap IntKind.i64 ((j : Int) + 1) = ((j + 1 : Nat) : Int) := by rw [wid (by omega) (by omega)]; omega
    have c3 : decide ((j : Int) < ((L.length + 1 : Nat) : Int)) = true := decide_eq_true (by omega)
    have c4 : decide (((j + 1 : Nat) : Int) < ((L.length + 1 : Nat) : Int)) = true := decide_eq_true (by omega)
    have c5 : decide ((0 : Int) ≤ ((j + 1 : Nat) : Int)) = true := decide_eq_true (by omega)
    have c6 : decide (j < L.length) = true := decide_eq_true (by omega)
    simp only [rpl1_step, Tr.val, c1, c2, w1, c3, c4, c5, c6, tab_length, Int.toNat_natCast, tab_set, el_tab hj, eli_tab (show j < L.length + 1 by omega), eli_tab (show j + 1 < L.length + 1 by omega), Bool.and_self, cond_true, if_true, Nat.lt_irrefl, if_false]
    refine congrArg (fun x => some (Sum.inl (((j + 1 : Nat) : Int), x))) (tab_congr fun i hi => ?_)
    by_cases e1 : i = j
    · subst e1
      rw [if_pos rfl, if_pos (by omega)]; rfl
    · rw [if_neg e1, if_neg e1]
      by_cases h2 : i < j
      · rw [if_pos h2, if_pos (by omega)]
      · rw [if_neg h2, if_neg (by omega)])
  rw [← en] at this
  have h0 : ((((0 : Nat) : Int)), tab L.length (fun i => if i < 0 then wS (bL L i) (s i) (s (i + 1)) else bL L i)) = ((0 : Int), L) := by rw [← st, ← hL]; rfl
  rw [h0] at this
  exact this
theorem sam_run (h : L.length ≤ 1000) : sam_cond (L, L, (L.length : Int)) (false, (0 : Int)) = true ∧ sam_g (L, L, (L.length : Int)) (false, (0 : Int)) = (1, (false, (L.length : Int))) := by
  refine run_steps (step := sam_step (L, L, (L.length : Int))) (St := fun j => (false, (j : Int))) (n := L.length) ?_ L.length 0 (Nat.zero_add _) (fun j _ hj => ?_)
  · simp only [sam_step, Tr.val, Int.lt_irrefl, decide_false, cond_false]
  · have c1 : decide ((j : Int) < (L.length : Int)) = true := decide_eq_true (by omega)
    have c2 : decide ((0 : Int) ≤ (j : Int)) = true := decide_eq_true (by omega)
    have w1 : IntKind.wrap IntKind.i64 ((j : Int) + 1) = ((j + 1 : Nat) : Int) := by rw [wid (by omega) (by omega)]; omega
    simp only [sam_step, Tr.val, c1, c2, w1, beq_self_eq_true, Bool.and_self, Bool.not_true, cond_true, cond_false]
end
end Go.Proofs.Ytaidlflnkdamkaa
