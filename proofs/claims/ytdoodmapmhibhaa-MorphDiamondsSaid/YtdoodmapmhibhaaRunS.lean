/-
  A sweep over the bounds of two lists of runs: what it comes to. No program is named here.
-/
import Derived.Test.YtdoodmapmhibhaaRunM
namespace Go.Proofs.Ytdoodmapmhibhaa
/-- Bound number n of the runs of a list. -/
def bdR (L : Rl) (n : Nat) : Int := if 2 * L.length ≤ n then 9223372036854775807 else if n % 2 = 0 then (L.getD (n / 2) (0, 0)).1 else (L.getD (n / 2) (0, 0)).2
theorem bdR_nil (n : Nat) : bdR [] n = 9223372036854775807 := if_pos (by simp)
theorem bdR_0 (r : Int × Int) (L : Rl) : bdR (r :: L) 0 = r.1 := by
  unfold bdR
  rw [if_neg (by simp only [List.length_cons]; omega), if_pos rfl]; rfl
theorem bdR_1 (r : Int × Int) (L : Rl) : bdR (r :: L) 1 = r.2 := by
  unfold bdR
  rw [if_neg (by simp only [List.length_cons]; omega), if_neg (by omega)]; rfl
theorem bdR_2 (r : Int × Int) (L : Rl) (n : Nat) : bdR (r :: L) (n + 2) = bdR L n := by
  unfold bdR
  have e1 : (n + 2) / 2 = n / 2 + 1 := by omega
  have e2 : (n + 2) % 2 = n % 2 := by omega
  rw [e1, e2]
  by_cases h : 2 * L.length ≤ n
  · rw [if_pos h, if_pos (by simp only [List.length_cons]; omega)]
  · rw [if_neg h, if_neg (by simp only [List.length_cons]; omega)]; rfl
theorem bdR_end {L : Rl} {n : Nat} (h : 2 * L.length ≤ n) : bdR L n = 9223372036854775807 := if_pos h
/-- Bounds ascend. -/
theorem bdR_up : ∀ {L : Rl} {lo : Int}, Nr lo L → endR lo L ≤ 1048576 → ∀ i, lo < 9223372036854775807 → lo < bdR L i ∧ (i < 2 * L.length → bdR L i ≤ 1048576 ∧ ∀ j, i < j → bdR L i < bdR L j)
  | [], lo, _, _, i, hlo => ⟨by rw [bdR_nil]; exact hlo, fun h => absurd h (by simp)⟩
  | r :: L, lo, ⟨h1, h2, h3⟩, he, i, hlo => by
    have he : endR r.2 L ≤ 1048576 := he
    have hr := h3.le_end
    have ih := fun i => bdR_up h3 he i (by omega)
    match i with
    | 0 =>
      rw [bdR_0]
      refine ⟨h1, fun _ => ⟨by omega, fun j hj => ?_⟩⟩
      match j with
      | 0 => omega
      | 1 => rw [bdR_1]; exact h2
      | j + 2 => rw [bdR_2]; have := (ih j).1; omega
    | 1 =>
      rw [bdR_1]
      refine ⟨by omega, fun _ => ⟨by omega, fun j hj => ?_⟩⟩
      match j with
      | 0 => omega
      | 1 => omega
      | j + 2 => rw [bdR_2]; exact (ih j).1
    | i + 2 =>
      rw [bdR_2]
      refine ⟨by have := (ih i).1; omega, fun hi => ?_⟩
      have hi' : i < 2 * L.length := by simp only [List.length_cons] at hi; omega
      obtain ⟨a, b⟩ := (ih i).2 hi'
      refine ⟨a, fun j hj => ?_⟩
      match j with
      | 0 => omega
      | 1 => omega
      | j + 2 => rw [bdR_2]; exact b j (by omega)
/-- Membership by the number of bounds passed. -/
theorem memB_odd : ∀ {L : Rl} {p : Nat} {x : Int}, x < 9223372036854775807 → (∀ i, i < p → bdR L i ≤ x) → (∀ i, p ≤ i → x < bdR L i) → memB L x = decide (p % 2 = 1)
  | [], p, x, hx, h1, _ => by
    have : p = 0 := by
      apply Classical.byContradiction
      intro hp
      have := h1 0 (by omega)
      rw [bdR_nil] at this; omega
    subst this
    rfl
  | r :: L, p, x, hx, h1, h2 => by
    have e : memB (r :: L) x = ((bif decide (r.1 ≤ x) then decide (x < r.2) else false) || memB L x) := rfl
    rw [e]
    match p with
    | 0 =>
      have a := h2 0 (Nat.le_refl _)
      rw [bdR_0] at a
      rw [decide_eq_false (show ¬ r.1 ≤ x by omega), memB_odd (p := 0) hx (fun i hi => absurd hi (Nat.not_lt_zero _)) fun i _ => by have := h2 (i + 2) (by omega); rwa [bdR_2] at this]
      rfl
    | 1 =>
      have a := h1 0 (by omega)
      rw [bdR_0] at a
      have b := h2 1 (Nat.le_refl _)
      rw [bdR_1] at b
      rw [decide_eq_true a, decide_eq_true b]; rfl
    | p + 2 =>
      have b := h1 1 (by omega)
      rw [bdR_1] at b
      have c : (bif decide (r.1 ≤ x) then decide (x < r.2) else false) = false := by
        rw [decide_eq_false (show ¬ x < r.2 by omega)]; cases decide (r.1 ≤ x) <;> rfl
      rw [c, memB_odd (p := p) hx (fun i hi => by have := h1 (i + 2) (by omega); rwa [bdR_2] at this) fun i hi => by have := h2 (i + 2) (by omega); rwa [bdR_2] at this]
      have : (p + 2) % 2 = p % 2 := by omega
      rw [this]; rfl
theorem memB_far {L : Rl} (h : valR L) {x : Int} (hx : 1048576 ≤ x) : memB L x = false := by
  rw [← Bool.not_eq_true, memB_iff]
  rintro ⟨r, hr, h1, h2⟩
  have := val_in h r hr
  omega
/-- The sweep's state: bounds passed, where the open run begins, is it open, the runs. -/
structure Swp (op : Bool → Bool → Bool) (A B : Rl) (pa pb : Nat) (from_ : Int) (ins : Bool) (res : Rl) (t : Int) : Prop where
  la : pa ≤ 2 * A.length
  lb : pb ≤ 2 * B.length
  a1 : ∀ i, i < pa → bdR A i ≤ t
  a2 : ∀ i, pa ≤ i → t < bdR A i
  b1 : ∀ i, i < pb → bdR B i ≤ t
  b2 : ∀ i, pb ≤ i → t < bdR B i
  t0 : -1048577 ≤ t
  t1 : t ≤ 1048576
  hin : ins = op (decide (pa % 2 = 1)) (decide (pb % 2 = 1))
  nr : Nr (-1048577) res
  en : endR (-1048577) res ≤ t
  mem : ∀ x, x ≤ t → (op (memB A x) (memB B x) = true ↔ memR res x ∨ (ins = true ∧ from_ ≤ x))
  fr : ins = true → endR (-1048577) res < from_ ∧ from_ ≤ t
  len : res.length ≤ pa + pb
theorem swp_start {op : Bool → Bool → Bool} {A B : Rl} (ha : valR A) (hb : valR B) (h0 : op false false = false) : Swp op A B 0 0 0 false [] (-1048577) where
  la := Nat.zero_le _
  lb := Nat.zero_le _
  a1 := fun i h => absurd h (Nat.not_lt_zero _)
  a2 := fun i _ => (bdR_up ha.1 ha.2 i (by omega)).1
  b1 := fun i h => absurd h (Nat.not_lt_zero _)
  b2 := fun i _ => (bdR_up hb.1 hb.2 i (by omega)).1
  t0 := Int.le_refl _
  t1 := by omega
  hin := h0.symm
  nr := trivial
  en := Int.le_refl _
  mem := fun x hx => by
    rw [memB_odd (p := 0) (L := A) (by omega) (fun i h => absurd h (Nat.not_lt_zero _)) (fun i _ => by have := (bdR_up ha.1 ha.2 i (by omega)).1; omega), memB_odd (p := 0) (L := B) (by omega) (fun i h => absurd h (Nat.not_lt_zero _)) (fun i _ => by have := (bdR_up hb.1 hb.2 i (by omega)).1; omega)]
    show op false false = true ↔ _
    rw [h0]; simp [memR_nil]
  fr := fun h => by cases h
  len := Nat.zero_le _
theorem swp_next {op : Bool → Bool → Bool} {A B : Rl} (ha : valR A) (hb : valR B) {pa pb : Nat} {from_ : Int} {ins : Bool} {res : Rl} {t : Int} (s : Swp op A B pa pb from_ ins res t) (hm : pa < 2 * A.length ∨ pb < 2 * B.length)
    {at_ : Int} (hat : at_ = min (bdR A pa) (bdR B pb)) {pa' pb' : Nat} (hpa : pa' = if bdR A pa = at_ then pa + 1 else pa) (hpb : pb' = if bdR B pb = at_ then pb + 1 else pb) {hd : Bool} (hh : hd = op (decide (pa' % 2 = 1)) (decide (pb' % 2 = 1))) :
    Swp op A B pa' pb' (bif (bif hd then !ins else false) then at_ else from_) hd (bif (bif ins then !hd else false) then res ++ [(from_, at_)] else res) at_ ∧ pa + pb < pa' + pb' := by
  have ua := fun i => bdR_up ha.1 ha.2 i (by omega)
  have ub := fun i => bdR_up hb.1 hb.2 i (by omega)
  have ta := s.a2 pa (Nat.le_refl _)
  have tb := s.b2 pb (Nat.le_refl _)
  have hlt : t < at_ := by omega
  have hle : at_ ≤ 1048576 := by
    rcases hm with h | h
    · have := ((ua pa).2 h).1; omega
    · have := ((ub pb).2 h).1; omega
  -- bounds behind
  have stepA : pa' ≤ 2 * A.length ∧ (∀ i, i < pa' → bdR A i ≤ at_) ∧ (∀ i, pa' ≤ i → at_ < bdR A i) := by
    by_cases e : bdR A pa = at_
    · rw [if_pos e] at hpa
      have hl : pa < 2 * A.length := by
        apply Classical.byContradiction
        intro h
        rw [bdR_end (by omega)] at e
        omega
      subst hpa
      refine ⟨hl, fun i hi => ?_, fun i hi => ?_⟩
      · by_cases e2 : i = pa
        · subst e2; omega
        · have := s.a1 i (by omega); omega
      · rw [← e]; exact ((ua pa).2 hl).2 i (by omega)
    · rw [if_neg e] at hpa
      subst hpa
      refine ⟨s.la, fun i hi => by have := s.a1 i hi; omega, fun i hi => ?_⟩
      have h1 : at_ < bdR A pa' := by omega
      by_cases e2 : i = pa'
      · subst e2; exact h1
      · by_cases hl : pa' < 2 * A.length
        · have := ((ua pa').2 hl).2 i (by omega); omega
        · rw [bdR_end (by omega)]; omega
  have stepB : pb' ≤ 2 * B.length ∧ (∀ i, i < pb' → bdR B i ≤ at_) ∧ (∀ i, pb' ≤ i → at_ < bdR B i) := by
    by_cases e : bdR B pb = at_
    · rw [if_pos e] at hpb
      have hl : pb < 2 * B.length := by
        apply Classical.byContradiction
        intro h
        rw [bdR_end (by omega)] at e
        omega
      subst hpb
      refine ⟨hl, fun i hi => ?_, fun i hi => ?_⟩
      · by_cases e2 : i = pb
        · subst e2; omega
        · have := s.b1 i (by omega); omega
      · rw [← e]; exact ((ub pb).2 hl).2 i (by omega)
    · rw [if_neg e] at hpb
      subst hpb
      refine ⟨s.lb, fun i hi => by have := s.b1 i hi; omega, fun i hi => ?_⟩
      have h1 : at_ < bdR B pb' := by omega
      by_cases e2 : i = pb'
      · subst e2; exact h1
      · by_cases hl : pb' < 2 * B.length
        · have := ((ub pb').2 hl).2 i (by omega); omega
        · rw [bdR_end (by omega)]; omega
  have more : pa + pb < pa' + pb' := by
    by_cases e : bdR A pa = at_
    · rw [if_pos e] at hpa
      have : pb ≤ pb' := by rw [hpb]; split <;> omega
      omega
    · have e2 : bdR B pb = at_ := by omega
      rw [if_neg e] at hpa
      rw [if_pos e2] at hpb
      omega
  -- between t and at_
  have mid : ∀ x, t < x → x < at_ → op (memB A x) (memB B x) = ins := fun x h1 h2 => by
    rw [memB_odd (p := pa) (L := A) (by omega) (fun i hi => by have := s.a1 i hi; omega) (fun i hi => ?_), memB_odd (p := pb) (L := B) (by omega) (fun i hi => by have := s.b1 i hi; omega) (fun i hi => ?_), ← s.hin]
    · by_cases e : i = pb
      · subst e; omega
      · by_cases hl : pb < 2 * B.length
        · have := ((ub pb).2 hl).2 i (by omega); omega
        · rw [bdR_end (by omega)]; omega
    · by_cases e : i = pa
      · subst e; omega
      · by_cases hl : pa < 2 * A.length
        · have := ((ua pa).2 hl).2 i (by omega); omega
        · rw [bdR_end (by omega)]; omega
  have fin : op (memB A at_) (memB B at_) = hd := by
    rw [memB_odd (p := pa') (L := A) (by omega) stepA.2.1 stepA.2.2, memB_odd (p := pb') (L := B) (by omega) stepB.2.1 stepB.2.2, hh]
  have out : ∀ x, t < x → ¬ memR res x := fun x hx h => by have := s.nr.lt_end h; have := s.en; omega
  have sen := s.en
  have slen := s.len
  refine ⟨?_, more⟩
  cases hi : ins <;> cases hd'' : hd
  · -- closed, closed
    exact { la := stepA.1, lb := stepB.1, a1 := stepA.2.1, a2 := stepA.2.2, b1 := stepB.2.1, b2 := stepB.2.2, t0 := by have := s.t0; omega, t1 := hle, hin := by rw [← hd'']; exact hh, nr := s.nr, en := by simp only [cond_false]; omega, fr := (fun h => by cases h), len := by simp only [cond_false]; omega
            mem := fun x hx => by
              simp only [cond_false]
              by_cases hxt : x ≤ t
              · rw [s.mem x hxt, hi]
              · have ho := out x (by omega)
                by_cases e : x = at_
                · subst e; rw [fin, hd'']; simp [ho]
                · rw [mid x (by omega) (by omega), hi]; simp [ho] }
  · -- opens
    exact { la := stepA.1, lb := stepB.1, a1 := stepA.2.1, a2 := stepA.2.2, b1 := stepB.2.1, b2 := stepB.2.2, t0 := by have := s.t0; omega, t1 := hle, hin := by rw [← hd'']; exact hh, nr := s.nr, en := by simp only [cond_false]; omega, fr := (fun _ => by simp only [cond_false, cond_true, Bool.not_false]; omega), len := by simp only [cond_false]; omega
            mem := fun x hx => by
              simp only [cond_false, cond_true, Bool.not_false]
              by_cases hxt : x ≤ t
              · rw [s.mem x hxt, hi]
                simp
                intro h; omega
              · have ho := out x (by omega)
                by_cases e : x = at_
                · subst e; rw [fin, hd'']; simp
                · rw [mid x (by omega) (by omega), hi]; simp [ho]; omega }
  · -- closes
    obtain ⟨f1, f2⟩ := s.fr hi
    exact { la := stepA.1, lb := stepB.1, a1 := stepA.2.1, a2 := stepA.2.2, b1 := stepB.2.1, b2 := stepB.2.2, t0 := by have := s.t0; omega, t1 := hle, hin := by rw [← hd'']; exact hh
            nr := (by simp only [cond_true, Bool.not_false]; exact Nr_app.2 ⟨s.nr, f1, by show from_ < at_; omega, trivial⟩)
            en := (by simp only [cond_true, Bool.not_false]; rw [endR_app]; exact Int.le_refl _)
            fr := (fun h => by cases h)
            len := (by simp only [cond_true, Bool.not_false, List.length_append, List.length_cons, List.length_nil]; omega)
            mem := fun x hx => by
              simp only [cond_true, Bool.not_false]
              rw [memR_app, memR_cons]
              simp only [memR_nil, or_false, Bool.false_eq_true, false_and]
              by_cases hxt : x ≤ t
              · rw [s.mem x hxt, hi]
                constructor
                · rintro (h | ⟨_, h⟩)
                  · exact .inl h
                  · exact .inr ⟨h, by omega⟩
                · rintro (h | ⟨h, _⟩)
                  · exact .inl h
                  · exact .inr ⟨rfl, h⟩
              · have ho := out x (by omega)
                by_cases e : x = at_
                · subst e; rw [fin, hd'']; simp [ho]
                · rw [mid x (by omega) (by omega), hi]
                  simp only [true_iff]
                  exact .inr ⟨by omega, by omega⟩ }
  · -- open, open
    obtain ⟨f1, f2⟩ := s.fr hi
    exact { la := stepA.1, lb := stepB.1, a1 := stepA.2.1, a2 := stepA.2.2, b1 := stepB.2.1, b2 := stepB.2.2, t0 := by have := s.t0; omega, t1 := hle, hin := by rw [← hd'']; exact hh, nr := s.nr, en := by simp only [cond_true, Bool.not_true, cond_false]; omega, fr := (fun _ => by simp only [cond_true, Bool.not_true, cond_false]; omega), len := by simp only [cond_true, Bool.not_true, cond_false]; omega
            mem := fun x hx => by
              simp only [cond_true, Bool.not_true, cond_false]
              by_cases hxt : x ≤ t
              · rw [s.mem x hxt, hi]; simp
              · by_cases e : x = at_
                · subst e; rw [fin, hd'']; simp; right; omega
                · rw [mid x (by omega) (by omega), hi]; simp; right; omega }
theorem swp_end {op : Bool → Bool → Bool} {A B : Rl} (ha : valR A) (hb : valR B) (h0 : op false false = false) {pa pb : Nat} {from_ : Int} {ins : Bool} {res : Rl} {t : Int} (s : Swp op A B pa pb from_ ins res t) (h1 : ¬ pa < 2 * A.length) (h2 : ¬ pb < 2 * B.length) :
    valR res ∧ res = nfR fun x => op (memB A x) (memB B x) = true := by
  have la := s.la
  have lb := s.lb
  have hi : ins = false := by
    rw [s.hin, show pa = 2 * A.length by omega, show pb = 2 * B.length by omega, decide_eq_false (by omega), decide_eq_false (by omega), h0]
  have en := s.en
  have t1 := s.t1
  refine ⟨⟨s.nr, by omega⟩, (nfR_eq s.nr fun x => ?_).symm⟩
  by_cases hx : x ≤ t
  · rw [s.mem x hx, hi]; simp
  · have ho : ¬ memR res x := fun h => by have := s.nr.lt_end h; omega
    have : op (memB A x) (memB B x) = false := by
      by_cases hf : x < 9223372036854775807
      · rw [memB_odd (p := pa) (L := A) hf (fun i hi => by have := s.a1 i hi; omega) (fun i hi => by rw [bdR_end (by omega)]; exact hf), memB_odd (p := pb) (L := B) hf (fun i hi => by have := s.b1 i hi; omega) (fun i hi => by rw [bdR_end (by omega)]; exact hf), show pa = 2 * A.length by omega, show pb = 2 * B.length by omega, decide_eq_false (by omega), decide_eq_false (by omega), h0]
      · rw [memB_far ha (by omega), memB_far hb (by omega), h0]
    rw [this]; simp [ho]
end Go.Proofs.Ytdoodmapmhibhaa
