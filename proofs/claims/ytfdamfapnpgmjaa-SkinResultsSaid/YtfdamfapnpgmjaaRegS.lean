/-
  Sorting by insertion; runs between sorted bounds. No program is named here.
-/
import Derived.Test.YtfdamfapnpgmjaaRegM
namespace Go.Proofs.Ytfdamfapnpgmjaa
def flatB (L : Rl) : List Int := L.flatMap fun r => [r.1, r.2]
theorem flatB_take {L : Rl} {j : Nat} (hj : j < L.length) : flatB (L.take (j + 1)) = flatB (L.take j) ++ [L[j].1, L[j].2] := by
  unfold flatB
  rw [List.take_succ_eq_append_getElem hj, List.flatMap_append]
  simp
theorem flatB_len : ∀ L : Rl, (flatB L).length = 2 * L.length
  | [] => rfl
  | r :: L => by
    have := flatB_len L
    unfold flatB at this ⊢
    rw [List.flatMap_cons, List.length_append, this]
    simp only [List.length_cons, List.length_nil]
    omega
theorem flatB_mem {L : Rl} {y : Int} : y ∈ flatB L ↔ ∃ r ∈ L, y = r.1 ∨ y = r.2 := by
  unfold flatB
  rw [List.mem_flatMap]
  constructor
  · rintro ⟨r, hr, h⟩; exact ⟨r, hr, by simpa using h⟩
  · rintro ⟨r, hr, h⟩; exact ⟨r, hr, by simpa using h⟩
/-- The list, two of whose elements have changed places. -/
def swp (l : List Int) (k : Nat) : List Int := (l.set k (l.getD (k - 1) 0)).set (k - 1) (l.getD k 0)
theorem swp_len (l : List Int) (k : Nat) : (swp l k).length = l.length := by unfold swp; simp
theorem swp_perm {l : List Int} {k : Nat} (h0 : 0 < k) (h : k < l.length) : (swp l k).Perm l := by
  have e1 : l.getD (k - 1) 0 = l[k - 1] := by rw [List.getD, List.getElem?_eq_getElem (by omega)]; rfl
  have e2 : l.getD k 0 = l[k] := by rw [List.getD, List.getElem?_eq_getElem h]; rfl
  unfold swp
  rw [e1, e2]
  exact List.set_set_perm (by omega) (by omega)
theorem getD_set (l : List Int) (i j : Nat) (x : Int) (hi : i < l.length) : (l.set i x).getD j 0 = if j = i then x else l.getD j 0 := by
  rw [List.getD, List.getD, List.getElem?_set]
  by_cases h : j = i
  · rw [if_pos h.symm, if_pos h, if_pos hi]; rfl
  · rw [if_neg (fun e => h e.symm), if_neg h]
theorem swp_get {l : List Int} {k : Nat} (h0 : 0 < k) (h : k < l.length) (j : Nat) : (swp l k).getD j 0 = if j = k - 1 then l.getD k 0 else if j = k then l.getD (k - 1) 0 else l.getD j 0 := by
  unfold swp
  rw [getD_set _ _ _ _ (by rw [List.length_set]; omega), getD_set _ _ _ _ h]
/-- What the inner loop of an insertion knows. -/
structure Ins (l0 : List Int) (i : Nat) (k : Nat) (l : List Int) : Prop where
  ki : k ≤ i
  len : l.length = l0.length
  perm : l.Perm l0
  a : ∀ p q, p < q → q ≤ i → p ≠ k → q ≠ k → l.getD p 0 ≤ l.getD q 0
  b : ∀ q, k < q → q ≤ i → l.getD k 0 ≤ l.getD q 0
theorem ins_start {l : List Int} {i : Nat} (hs : ∀ p q, p < q → q < i → l.getD p 0 ≤ l.getD q 0) : Ins l i i l where
  ki := Nat.le_refl _
  len := rfl
  perm := List.Perm.refl _
  a := fun p q h1 h2 h3 h4 => hs p q h1 (by omega)
  b := fun q h1 h2 => by omega
theorem ins_next {l0 l : List Int} {i k : Nat} (hi : i < l0.length) (s : Ins l0 i k l) (h0 : 0 < k) (hlt : l.getD k 0 < l.getD (k - 1) 0) : Ins l0 i (k - 1) (swp l k) := by
  have hk : k < l.length := by have := s.ki; have := s.len; omega
  have g := swp_get h0 hk
  refine ⟨by have := s.ki; omega, (swp_len l k).trans s.len, (swp_perm h0 hk).trans s.perm, fun p q h1 h2 h3 h4 => ?_, fun q h1 h2 => ?_⟩
  · rw [g, g, if_neg h3, if_neg h4]
    by_cases hp : p = k
    · subst hp
      rw [if_pos rfl, if_neg (by omega)]
      exact s.a (p - 1) q (by omega) h2 (by omega) (by omega)
    · rw [if_neg hp]
      by_cases hq : q = k
      · rw [if_pos hq]
        exact s.a p (k - 1) (by omega) (by have := s.ki; omega) hp (by omega)
      · rw [if_neg hq]
        exact s.a p q h1 h2 hp hq
  · rw [g, g, if_pos rfl, if_neg (by omega)]
    by_cases hq : q = k
    · rw [if_pos hq]; omega
    · rw [if_neg hq]
      exact s.b q (by omega) h2
theorem ins_end {l0 l : List Int} {i k : Nat} (s : Ins l0 i k l) (h : ¬ (0 < k ∧ l.getD k 0 < l.getD (k - 1) 0)) : ∀ p q, p < q → q < i + 1 → l.getD p 0 ≤ l.getD q 0 := fun p q h1 h2 => by
  have := s.ki
  by_cases hp : p = k
  · subst hp; exact s.b q h1 (by omega)
  · by_cases hq : q = k
    · subst hq
      have h3 : ¬ l.getD q 0 < l.getD (q - 1) 0 := fun g => h ⟨by omega, g⟩
      by_cases hpq : p = q - 1
      · subst hpq; omega
      · have := s.a p (q - 1) (by omega) (by omega) hp (by omega); omega
    · exact s.a p q h1 (by omega) hp hq
/-! Runs between bounds. -/
structure Cm (f : Int → Bool) (a : Int) (out : Rl) : Prop where
  nr : Nr (-1048577) out
  en : endR (-1048577) out ≤ a
  mem : ∀ x, memR out x ↔ (x < a ∧ f x = true)
theorem cm_no {f : Int → Bool} {a b : Int} {out : Rl} (c : Cm f a out) (hab : a ≤ b) (h : ∀ x, a ≤ x → x < b → f x = false) : Cm f b out := ⟨c.nr, by have := c.en; omega, fun x => by
  rw [c.mem]
  constructor
  · rintro ⟨h1, h2⟩; exact ⟨by omega, h2⟩
  · rintro ⟨h1, h2⟩
    refine ⟨?_, h2⟩
    apply Classical.byContradiction
    intro g
    have := h x (by omega) h1
    rw [h2] at this; cases this⟩
def putU (out : Rl) (a b : Int) : Rl := bif (bif decide (0 < out.length) then (lastR out).2 == a else false) then out.set (out.length - 1) ((lastR out).1, b) else out ++ [(a, b)]
theorem putU_len (out : Rl) (a b : Int) : (putU out a b).length ≤ out.length + 1 := by
  unfold putU
  cases (bif decide (0 < out.length) then (lastR out).2 == a else false) <;> simp
theorem cm_yes {f : Int → Bool} {a b : Int} {out : Rl} (c : Cm f a out) (ha : -1048577 < a) (hab : a < b) (h : ∀ x, a ≤ x → x < b → f x = true) : Cm f b (putU out a b) := by
  have hmem : ∀ x, (x < b ∧ f x = true) ↔ (memR out x ∨ (a ≤ x ∧ x < b)) := fun x => by
    rw [c.mem]
    constructor
    · rintro ⟨h1, h2⟩
      by_cases g : x < a
      · exact .inl ⟨g, h2⟩
      · exact .inr ⟨by omega, h1⟩
    · rintro (⟨h1, h2⟩ | ⟨h1, h2⟩)
      · exact ⟨by omega, h2⟩
      · exact ⟨h2, h x h1 h2⟩
  rcases List.eq_nil_or_concat out with e | ⟨M, q, e⟩
  · subst e
    refine ⟨⟨ha, hab, trivial⟩, Int.le_refl _, fun x => ?_⟩
    rw [hmem]
    show memR [(a, b)] x ↔ _
    rw [memR_cons]
    constructor
    · rintro (g | g)
      · exact .inr g
      · exact absurd g (memR_nil x)
    · rintro (g | g)
      · exact absurd g (memR_nil x)
      · exact .inl g
  · rw [List.concat_eq_append] at e
    subst e
    have hl : lastR (M ++ [q]) = q := lastR_app M q
    have hen := c.en
    rw [endR_app] at hen
    obtain ⟨n1, n2⟩ := Nr_app.1 c.nr
    unfold putU
    rw [hl, decide_eq_true (show 0 < (M ++ [q]).length by simp), cond_true]
    by_cases g : q.2 = a
    · rw [show (q.2 == a) = true by rw [g]; exact beq_self_eq_true _, cond_true]
      have es : (M ++ [q]).set ((M ++ [q]).length - 1) (q.1, b) = M ++ [(q.1, b)] := by
        rw [List.length_append, List.length_singleton, Nat.add_sub_cancel, List.set_append_right _ _ (Nat.le_refl _), Nat.sub_self]; rfl
      rw [es]
      have q1 := n2.1
      have q2 := n2.2.1
      refine ⟨Nr_app.2 ⟨n1, q1, by show q.1 < b; omega, trivial⟩, by rw [endR_app]; exact Int.le_refl _, fun x => ?_⟩
      rw [hmem, memR_app, memR_app, memR_cons, memR_cons]
      constructor
      · rintro (k | ⟨k1, k2⟩ | k)
        · exact .inl (.inl k)
        · by_cases k3 : x < a
          · exact .inl (.inr (.inl ⟨k1, by omega⟩))
          · exact .inr ⟨by omega, k2⟩
        · exact absurd k (memR_nil x)
      · rintro ((k | ⟨k1, k2⟩ | k) | ⟨k1, k2⟩)
        · exact .inl k
        · exact .inr (.inl ⟨k1, by show x < b; omega⟩)
        · exact absurd k (memR_nil x)
        · exact .inr (.inl ⟨by show q.1 ≤ x; omega, k2⟩)
    · rw [show (q.2 == a) = false by rw [beq_eq_false_iff_ne]; exact g, cond_false]
      refine ⟨Nr_app.2 ⟨c.nr, by rw [endR_app]; show q.2 < a; omega, hab, trivial⟩, by rw [endR_app]; exact Int.le_refl _, fun x => ?_⟩
      rw [hmem, memR_app, memR_cons]
      constructor
      · rintro (k | k | k)
        · exact .inl k
        · exact .inr k
        · exact absurd k (memR_nil x)
      · rintro (k | k)
        · exact .inl k
        · exact .inr (.inl k)
/-- No bound between: the same members. -/
theorem memB_same {A : Rl} {x y : Int} (hyx : y ≤ x) (hz : ∀ z ∈ flatB A, ¬ (y < z ∧ z ≤ x)) : memB A x = memB A y := by
  have e : ∀ r ∈ A, (bif decide (r.1 ≤ x) then decide (x < r.2) else false) = (bif decide (r.1 ≤ y) then decide (y < r.2) else false) := fun r hr => by
    have z1 := hz r.1 (flatB_mem.2 ⟨r, hr, .inl rfl⟩)
    have z2 := hz r.2 (flatB_mem.2 ⟨r, hr, .inr rfl⟩)
    rw [show decide (r.1 ≤ x) = decide (r.1 ≤ y) by rw [Bool.eq_iff_iff, decide_eq_true_eq, decide_eq_true_eq]; omega, show decide (x < r.2) = decide (y < r.2) by rw [Bool.eq_iff_iff, decide_eq_true_eq, decide_eq_true_eq]; omega]
  unfold memB
  rw [Bool.eq_iff_iff, List.any_eq_true, List.any_eq_true]
  constructor
  · rintro ⟨r, hr, h⟩; exact ⟨r, hr, by rw [← e r hr]; exact h⟩
  · rintro ⟨r, hr, h⟩; exact ⟨r, hr, by rw [e r hr]; exact h⟩
theorem memB_below {A : Rl} {x : Int} (hz : ∀ z ∈ flatB A, x < z) : memB A x = false := by
  rw [← Bool.not_eq_true, memB_iff]
  rintro ⟨r, hr, h1, _⟩
  have := hz r.1 (flatB_mem.2 ⟨r, hr, .inl rfl⟩)
  omega
theorem memB_above {A : Rl} {x : Int} (hz : ∀ z ∈ flatB A, z ≤ x) : memB A x = false := by
  rw [← Bool.not_eq_true, memB_iff]
  rintro ⟨r, hr, _, h2⟩
  have := hz r.2 (flatB_mem.2 ⟨r, hr, .inr rfl⟩)
  omega
/-- Sorted: what lies in the list lies at or below an element or at or above the next. -/
theorem between {l : List Int} (hs : ∀ p q, p < q → q < l.length → l.getD p 0 ≤ l.getD q 0) {z : Int} (hz : z ∈ l) {i : Nat} (hi : i + 1 < l.length) : z ≤ l.getD i 0 ∨ l.getD (i + 1) 0 ≤ z := by
  obtain ⟨p, hp, rfl⟩ := List.mem_iff_getElem.1 hz
  have e : l[p] = l.getD p 0 := by rw [List.getD, List.getElem?_eq_getElem hp]; rfl
  rw [e]
  rcases (show p < i ∨ p = i ∨ p = i + 1 ∨ i + 1 < p by omega) with g | g | g | g
  · exact .inl (hs p i g (by omega))
  · subst g; exact .inl (Int.le_refl _)
  · subst g; exact .inr (Int.le_refl _)
  · exact .inr (hs (i + 1) p g hp)
def kpR (an : Int) (p q : Bool) : Bool := bif an == (0 : Int) then (bif p then true else q) else bif an == (1 : Int) then (bif p then q else false) else (bif p then !q else false)
theorem kpR_eq {an : Int} (h0 : 0 ≤ an) (h1 : an ≤ 2) (p q : Bool) : kpR an p q = opE (2 - an) p q := by
  rcases (show an = 0 ∨ an = 1 ∨ an = 2 by omega) with rfl | rfl | rfl <;> cases p <;> cases q <;> rfl
theorem kpR_ff (an : Int) : kpR an false false = false := by
  unfold kpR
  cases an == (0 : Int) <;> cases an == (1 : Int) <;> rfl
structure Bds (A B : Rl) (l : List Int) : Prop where
  srt : ∀ p q, p < q → q < l.length → l.getD p 0 ≤ l.getD q 0
  perm : l.Perm (flatB A ++ flatB B)
theorem Bds.inA {A B : Rl} {l : List Int} (h : Bds A B l) {z : Int} (hz : z ∈ flatB A) : z ∈ l := h.perm.mem_iff.2 (List.mem_append_left _ hz)
theorem Bds.inB {A B : Rl} {l : List Int} (h : Bds A B l) {z : Int} (hz : z ∈ flatB B) : z ∈ l := h.perm.mem_iff.2 (List.mem_append_right _ hz)
theorem Bds.low {A B : Rl} {l : List Int} (h : Bds A B l) (ha : valR A) (hb : valR B) {i : Nat} (hi : i < l.length) : -1048577 < l.getD i 0 := by
  have e : l.getD i 0 = l[i] := by rw [List.getD, List.getElem?_eq_getElem hi]; rfl
  rw [e]
  rcases List.mem_append.1 (h.perm.mem_iff.1 (List.getElem_mem hi)) with g | g
  · obtain ⟨r, hr, k⟩ := flatB_mem.1 g
    have := val_in ha r hr
    rcases k with k | k <;> omega
  · obtain ⟨r, hr, k⟩ := flatB_mem.1 g
    have := val_in hb r hr
    rcases k with k | k <;> omega
theorem Bds.same {A B : Rl} {l : List Int} (h : Bds A B l) {i : Nat} (hi : i + 1 < l.length) {x : Int} (h1 : l.getD i 0 ≤ x) (h2 : x < l.getD (i + 1) 0) (an : Int) : kpR an (memB A x) (memB B x) = kpR an (memB A (l.getD i 0)) (memB B (l.getD i 0)) := by
  rw [memB_same (A := A) h1 fun z hz => by have := between h.srt (h.inA hz) hi; omega, memB_same (A := B) h1 fun z hz => by have := between h.srt (h.inB hz) hi; omega]
theorem Bds.start {A B : Rl} {l : List Int} (h : Bds A B l) (ha : valR A) (hb : valR B) (h0 : 0 < l.length) (an : Int) : Cm (fun x => kpR an (memB A x) (memB B x)) (l.getD 0 0) [] where
  nr := trivial
  en := by have := h.low ha hb h0; show -1048577 ≤ _; omega
  mem := fun x => by
    constructor
    · intro g; exact absurd g (memR_nil x)
    · rintro ⟨h1, h2⟩
      have hl : ∀ z ∈ l, l.getD 0 0 ≤ z := fun z hz => by
        obtain ⟨p, hp, rfl⟩ := List.mem_iff_getElem.1 hz
        have e : l[p] = l.getD p 0 := by rw [List.getD, List.getElem?_eq_getElem hp]; rfl
        rw [e]
        rcases (show p = 0 ∨ 0 < p by omega) with g | g
        · subst g; exact Int.le_refl _
        · exact h.srt 0 p g hp
      have h2 : kpR an (memB A x) (memB B x) = true := h2
      rw [memB_below (A := A) fun z hz => by have := hl z (h.inA hz); omega, memB_below (A := B) fun z hz => by have := hl z (h.inB hz); omega, kpR_ff] at h2
      cases h2
theorem Bds.fin {A B : Rl} {l : List Int} (h : Bds A B l) {i : Nat} (hi : i + 1 = l.length) {an : Int} {out : Rl} (c : Cm (fun x => kpR an (memB A x) (memB B x)) (l.getD i 0) out) (x : Int) : memR out x ↔ kpR an (memB A x) (memB B x) = true := by
  rw [c.mem]
  constructor
  · rintro ⟨_, h2⟩; exact h2
  · intro h2
    refine ⟨?_, h2⟩
    apply Classical.byContradiction
    intro g
    have hl : ∀ z ∈ l, z ≤ l.getD i 0 := fun z hz => by
      obtain ⟨p, hp, rfl⟩ := List.mem_iff_getElem.1 hz
      have e : l[p] = l.getD p 0 := by rw [List.getD, List.getElem?_eq_getElem hp]; rfl
      rw [e]
      rcases (show p = i ∨ p < i by omega) with k | k
      · subst k; exact Int.le_refl _
      · exact h.srt p i k (by omega)
    rw [memB_above (A := A) fun z hz => by have := hl z (h.inA hz); omega, memB_above (A := B) fun z hz => by have := hl z (h.inB hz); omega, kpR_ff] at h2
    cases h2
theorem Bds.none {A B : Rl} {l : List Int} (h : Bds A B l) (h0 : l.length = 0) (an x : Int) : kpR an (memB A x) (memB B x) = false := by
  have e : l = [] := List.length_eq_zero_iff.1 h0
  have a1 : memB A x = false := memB_below fun z hz => by
    have g := h.inA hz
    rw [e] at g
    cases g
  have a2 : memB B x = false := memB_below fun z hz => by
    have g := h.inB hz
    rw [e] at g
    cases g
  rw [a1, a2, kpR_ff]
/-! A step of an operation on regions. -/
theorem spl_hit (a : Int × Rl) (X : Rg) : spl (a :: X) a.1 = (a.2, X) := by
  show (bif decide (a.1 = a.1) then (a.2, X) else ([], a :: X)) = _
  rw [decide_eq_true rfl]; rfl
theorem spl_miss {a : Int × Rl} {X : Rg} {y : Int} (h : a.1 ≠ y) : spl (a :: X) y = ([], a :: X) := by
  show (bif decide (a.1 = y) then (a.2, X) else ([], a :: X)) = _
  rw [decide_eq_false h]; rfl
theorem spl_nil (y : Int) : spl [] y = ([], []) := rfl
theorem comb_at {an : Int} {n : Nat} {X Y : Rg} {y : Int} {p q : Rl} {X' Y' : Rg} (h : 0 < X.length ∨ 0 < Y.length) (hy : lowG X Y = y) (h1 : spl X y = (p, X')) (h2 : spl Y y = (q, Y')) : combG an (n + 1) X Y = emit y (chL p q an) ++ combG an n X' Y' := by
  have gd : (decide (0 < X.length) || decide (0 < Y.length)) = true := by rw [Bool.or_eq_true, decide_eq_true_eq, decide_eq_true_eq]; exact h
  show (bif (decide (0 < X.length) || decide (0 < Y.length)) then emit (lowG X Y) (chL (spl X (lowG X Y)).1 (spl Y (lowG X Y)).1 an) ++ combG an n (spl X (lowG X Y)).2 (spl Y (lowG X Y)).2 else []) = _
  rw [gd, hy, h1, h2]; rfl
theorem comb_a (an : Int) (n : Nat) (a : Int × Rl) (X : Rg) : combG an (n + 1) (a :: X) [] = emit a.1 (chL a.2 [] an) ++ combG an n X [] := comb_at (.inl (by simp)) rfl (spl_hit a X) rfl
theorem comb_b (an : Int) (n : Nat) (b : Int × Rl) (Y : Rg) : combG an (n + 1) [] (b :: Y) = emit b.1 (chL [] b.2 an) ++ combG an n [] Y := comb_at (.inr (by simp)) rfl rfl (spl_hit b Y)
theorem comb_lt (an : Int) (n : Nat) {a b : Int × Rl} (X Y : Rg) (h : a.1 < b.1) : combG an (n + 1) (a :: X) (b :: Y) = emit a.1 (chL a.2 [] an) ++ combG an n X (b :: Y) := comb_at (.inl (by simp)) (by show min a.1 b.1 = a.1; omega) (spl_hit a X) (spl_miss (by omega))
theorem comb_eq (an : Int) (n : Nat) {a b : Int × Rl} (X Y : Rg) (h : a.1 = b.1) : combG an (n + 1) (a :: X) (b :: Y) = emit a.1 (chL a.2 b.2 an) ++ combG an n X Y := comb_at (.inl (by simp)) (by show min a.1 b.1 = a.1; omega) (spl_hit a X) (by rw [h]; exact spl_hit b Y)
theorem comb_gt (an : Int) (n : Nat) {a b : Int × Rl} (X Y : Rg) (h : b.1 < a.1) : combG an (n + 1) (a :: X) (b :: Y) = emit b.1 (chL [] b.2 an) ++ combG an n (a :: X) Y := comb_at (.inl (by simp)) (by show min a.1 b.1 = b.1; omega) (spl_miss (by omega)) (spl_hit b Y)
theorem emit_len (y : Int) (l : Rl) : (emit y l).length ≤ 1 := by unfold emit; cases decide (0 < l.length) <;> simp
theorem len_pos (l : Rl) : decide ((l.length : Int) > (0 : Int)) = decide (0 < l.length) := by rw [Bool.eq_iff_iff, decide_eq_true_eq, decide_eq_true_eq]; omega
end Go.Proofs.Ytfdamfapnpgmjaa
