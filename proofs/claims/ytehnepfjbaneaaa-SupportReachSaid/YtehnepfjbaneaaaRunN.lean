/-
  Sorted bounds of runs, and the runs between them: what the document's sweep comes to. No program is named here.
-/
import Derived.Test.YtehnepfjbaneaaaRunM
namespace Go.Proofs.Ytehnepfjbaneaaa
def insI : List Int → Int → List Int
  | [], x => [x]
  | a :: l, x => bif decide (x ≤ a) then (bif decide (x < a) then x :: a :: l else a :: l) else a :: insI l x
def leA (l : List Int) (x : Int) : Bool := l.any fun a => decide (x ≤ a)
theorem insI_none : ∀ {l : List Int} {x : Int}, leA l x = false → insI l x = l ++ [x]
  | [], _, _ => rfl
  | a :: l, x, h => by
    unfold leA at h
    rw [List.any_cons, Bool.or_eq_false_iff] at h
    have ih := insI_none (l := l) (x := x) h.2
    show (bif decide (x ≤ a) then _ else a :: insI l x) = _
    rw [h.1, ih]; rfl
theorem insI_snoc : ∀ (l : List Int) (a x : Int), insI (l ++ [a]) x = bif leA l x then insI l x ++ [a] else l ++ insI [a] x
  | [], a, x => rfl
  | b :: l, a, x => by
    have ih := insI_snoc l a x
    show (bif decide (x ≤ b) then (bif decide (x < b) then x :: b :: (l ++ [a]) else b :: (l ++ [a])) else b :: insI (l ++ [a]) x) = bif leA (b :: l) x then insI (b :: l) x ++ [a] else b :: l ++ insI [a] x
    have e : leA (b :: l) x = (decide (x ≤ b) || leA l x) := rfl
    rw [e, ih]
    show _ = bif (decide (x ≤ b) || leA l x) then (bif decide (x ≤ b) then (bif decide (x < b) then x :: b :: l else b :: l) else b :: insI l x) ++ [a] else _
    cases decide (x ≤ b)
    · cases leA l x <;> rfl
    · cases decide (x < b) <;> rfl
theorem leA_snoc (l : List Int) (a x : Int) : leA (l ++ [a]) x = (leA l x || decide (x ≤ a)) := by unfold leA; rw [List.any_append]; simp
theorem insI_len : ∀ (l : List Int) (x : Int), (insI l x).length ≤ l.length + 1
  | [], _ => Nat.le_refl _
  | a :: l, x => by
    have := insI_len l x
    show (bif decide (x ≤ a) then (bif decide (x < a) then x :: a :: l else a :: l) else a :: insI l x).length ≤ _
    cases decide (x ≤ a)
    · simp only [cond_false, List.length_cons]; omega
    · cases decide (x < a) <;> simp
theorem insI_mem : ∀ {l : List Int} {x y : Int}, y ∈ insI l x ↔ y = x ∨ y ∈ l
  | [], x, y => by simp [insI]
  | a :: l, x, y => by
    have ih := insI_mem (l := l) (x := x) (y := y)
    show y ∈ (bif decide (x ≤ a) then (bif decide (x < a) then x :: a :: l else a :: l) else a :: insI l x) ↔ _
    by_cases h1 : x ≤ a
    · rw [decide_eq_true h1]
      by_cases h2 : x < a
      · rw [decide_eq_true h2]; simp
      · rw [decide_eq_false h2]
        have : x = a := by omega
        subst this
        simp
    · rw [decide_eq_false h1]
      simp only [cond_false, List.mem_cons, ih]
      constructor <;> (intro h; rcases h with h | h | h <;> simp [h])
abbrev asc (l : List Int) : Prop := l.Pairwise (fun a b => a < b)
theorem insI_asc : ∀ {l : List Int} {x : Int}, asc l → asc (insI l x)
  | [], _, _ => List.pairwise_cons.2 ⟨(fun _ h => by cases h), List.Pairwise.nil⟩
  | a :: l, x, h => by
    obtain ⟨h1, h2⟩ := List.pairwise_cons.1 h
    show asc (bif decide (x ≤ a) then (bif decide (x < a) then x :: a :: l else a :: l) else a :: insI l x)
    by_cases g1 : x ≤ a
    · rw [decide_eq_true g1]
      by_cases g2 : x < a
      · rw [decide_eq_true g2]
        refine List.pairwise_cons.2 ⟨fun y hy => ?_, h⟩
        rcases List.mem_cons.1 hy with rfl | hy
        · exact g2
        · have := h1 y hy; omega
      · rw [decide_eq_false g2]; exact h
    · rw [decide_eq_false g1]
      refine List.pairwise_cons.2 ⟨fun y hy => ?_, insI_asc h2⟩
      rcases insI_mem.1 hy with rfl | hy
      · omega
      · exact h1 y hy
def bstR (acc : List Int) (r : Int × Int) : List Int := bif decide (r.1 < r.2) then insI (insI acc r.1) r.2 else acc
def bsR (L : Rl) : List Int := L.foldl bstR []
theorem bsR_take {L : Rl} {j : Nat} (hj : j < L.length) : bsR (L.take (j + 1)) = bstR (bsR (L.take j)) L[j] := by
  unfold bsR
  rw [List.take_succ_eq_append_getElem hj, List.foldl_append]; rfl
theorem bst_len (acc : List Int) (r : Int × Int) : (bstR acc r).length ≤ acc.length + 2 := by
  unfold bstR
  have h1 := insI_len acc r.1
  have h2 := insI_len (insI acc r.1) r.2
  cases decide (r.1 < r.2)
  · simp
  · simp only [cond_true]; omega
theorem foldb_len : ∀ (L : Rl) (acc : List Int), (L.foldl bstR acc).length ≤ acc.length + 2 * L.length
  | [], acc => by simp
  | r :: L, acc => by
    have h1 := foldb_len L (bstR acc r)
    have h2 := bst_len acc r
    simp only [List.foldl_cons, List.length_cons]
    omega
theorem bsR_len (L : Rl) : (bsR L).length ≤ 2 * L.length := by have := foldb_len L []; simpa [bsR] using this
theorem foldb_ok : ∀ (L : Rl) (acc : List Int), asc acc → asc (L.foldl bstR acc) ∧ ∀ y, y ∈ L.foldl bstR acc ↔ y ∈ acc ∨ ∃ r ∈ L, r.1 < r.2 ∧ (y = r.1 ∨ y = r.2)
  | [], acc, h => ⟨h, fun y => by simp⟩
  | r :: L, acc, h => by
    have ha : asc (bstR acc r) := by
      unfold bstR
      cases decide (r.1 < r.2)
      · exact h
      · exact insI_asc (insI_asc h)
    obtain ⟨i1, i2⟩ := foldb_ok L (bstR acc r) ha
    refine ⟨i1, fun y => ?_⟩
    rw [List.foldl_cons, i2]
    have e : y ∈ bstR acc r ↔ y ∈ acc ∨ (r.1 < r.2 ∧ (y = r.1 ∨ y = r.2)) := by
      unfold bstR
      by_cases hr : r.1 < r.2
      · rw [decide_eq_true hr]
        simp only [cond_true, insI_mem]
        constructor
        · rintro (h | h | h)
          · exact .inr ⟨hr, .inr h⟩
          · exact .inr ⟨hr, .inl h⟩
          · exact .inl h
        · rintro (h | ⟨_, h | h⟩)
          · exact .inr (.inr h)
          · exact .inr (.inl h)
          · exact .inl h
      · rw [decide_eq_false hr]; simp [hr]
    rw [e]
    constructor
    · rintro ((h | h) | ⟨q, hq, h⟩)
      · exact .inl h
      · exact .inr ⟨r, List.mem_cons_self, h⟩
      · exact .inr ⟨q, List.mem_cons_of_mem _ hq, h⟩
    · rintro (h | ⟨q, hq, h⟩)
      · exact .inl (.inl h)
      · rcases List.mem_cons.1 hq with rfl | hq
        · exact .inl (.inr h)
        · exact .inr ⟨q, hq, h⟩
theorem bsR_asc (L : Rl) : asc (bsR L) := (foldb_ok L [] List.Pairwise.nil).1
theorem bsR_mem {L : Rl} {y : Int} : y ∈ bsR L ↔ ∃ r ∈ L, r.1 < r.2 ∧ (y = r.1 ∨ y = r.2) := by
  have := (foldb_ok L [] List.Pairwise.nil).2 y
  simpa [bsR] using this
/-- The runs between bounds. -/
def seg (f : Int → Bool) : List Int → Rl
  | a :: b :: l => bif f a then (a, b) :: seg f (b :: l) else seg f (b :: l)
  | _ => []
theorem seg_snoc (f : Int → Bool) (a b : Int) : ∀ A : List Int, seg f (A ++ [a] ++ [b]) = seg f (A ++ [a]) ++ bif f a then [(a, b)] else []
  | [] => by
    show (bif f a then (a, b) :: seg f [b] else seg f [b]) = seg f [a] ++ _
    cases f a <;> rfl
  | [c] => by
    show (bif f c then (c, a) :: (bif f a then (a, b) :: [] else []) else (bif f a then (a, b) :: [] else [])) = (bif f c then (c, a) :: [] else []) ++ _
    cases f c <;> cases f a <;> rfl
  | c :: d :: A => by
    have ih := seg_snoc f a b (d :: A)
    show (bif f c then (c, d) :: seg f (d :: A ++ [a] ++ [b]) else seg f (d :: A ++ [a] ++ [b])) = (bif f c then (c, d) :: seg f (d :: A ++ [a]) else seg f (d :: A ++ [a])) ++ _
    rw [ih]
    cases f c <;> rfl
theorem seg_ok (f : Int → Bool) : ∀ {l : List Int}, asc l → (∀ r ∈ seg f l, r.1 < r.2 ∧ r.1 ∈ l ∧ r.2 ∈ l) ∧ (seg f l).Pairwise (fun a b => a.1 ≤ b.1)
  | [], _ => ⟨(fun _ h => by cases h), List.Pairwise.nil⟩
  | [a], _ => ⟨(fun _ h => by cases h), List.Pairwise.nil⟩
  | a :: b :: l, h => by
    obtain ⟨h1, h2⟩ := List.pairwise_cons.1 h
    obtain ⟨i1, i2⟩ := seg_ok f h2
    have hab := h1 b List.mem_cons_self
    have up : ∀ r ∈ seg f (b :: l), r.1 < r.2 ∧ r.1 ∈ a :: b :: l ∧ r.2 ∈ a :: b :: l := fun r hr => by
      obtain ⟨a1, a2, a3⟩ := i1 r hr
      exact ⟨a1, List.mem_cons_of_mem _ a2, List.mem_cons_of_mem _ a3⟩
    show (∀ r ∈ (bif f a then (a, b) :: seg f (b :: l) else seg f (b :: l)), _) ∧ (bif f a then (a, b) :: seg f (b :: l) else seg f (b :: l)).Pairwise _
    cases f a
    · exact ⟨up, i2⟩
    · refine ⟨fun r hr => ?_, List.pairwise_cons.2 ⟨fun r hr => ?_, i2⟩⟩
      · rcases List.mem_cons.1 hr with rfl | hr
        · exact ⟨hab, List.mem_cons_self, List.mem_cons_of_mem _ List.mem_cons_self⟩
        · exact up r hr
      · have := h1 r.1 (i1 r hr).2.1
        show a ≤ r.1; omega
theorem seg_mem' (f : Int → Bool) : ∀ {l : List Int} {a : Int}, asc (a :: l) → (∀ y ∈ a :: l, ∀ x, y ≤ x → (∀ z ∈ a :: l, ¬ (y < z ∧ z ≤ x)) → f x = f y) → ∀ x, memR (seg f (a :: l)) x ↔ a ≤ x ∧ (∃ z ∈ l, x < z) ∧ f x = true
  | [], a, _, _, x => by simp [seg, memR_nil]
  | b :: l, a, h, hc, x => by
    obtain ⟨h1, h2⟩ := List.pairwise_cons.1 h
    have hab := h1 b List.mem_cons_self
    have h3 := (List.pairwise_cons.1 h2).1
    have ih := seg_mem' f h2 (fun y hy x hyx hz => hc y (List.mem_cons_of_mem _ hy) x hyx fun z hz' => by
      rcases List.mem_cons.1 hz' with rfl | hz'
      · intro ⟨g, _⟩
        have := h1 y hy; omega
      · exact hz z hz') x
    have e : memR (seg f (a :: b :: l)) x ↔ (f a = true ∧ a ≤ x ∧ x < b) ∨ memR (seg f (b :: l)) x := by
      show memR (bif f a then (a, b) :: seg f (b :: l) else seg f (b :: l)) x ↔ _
      cases f a
      · simp
      · simp only [cond_true, memR_cons, true_and]
    rw [e, ih]
    by_cases hx : x < b
    · constructor
      · rintro (⟨g1, g2, _⟩ | ⟨g, _⟩)
        · refine ⟨g2, ⟨b, List.mem_cons_self, hx⟩, ?_⟩
          rw [hc a List.mem_cons_self x g2 fun z hz => by
            rcases List.mem_cons.1 hz with rfl | hz
            · omega
            · rcases List.mem_cons.1 hz with rfl | hz
              · omega
              · have := h3 z hz; omega]
          exact g1
        · omega
      · rintro ⟨g1, _, g3⟩
        refine .inl ⟨?_, g1, hx⟩
        rw [← hc a List.mem_cons_self x g1 fun z hz => by
            rcases List.mem_cons.1 hz with rfl | hz
            · omega
            · rcases List.mem_cons.1 hz with rfl | hz
              · omega
              · have := h3 z hz; omega]
        exact g3
    · constructor
      · rintro (⟨_, _, g⟩ | ⟨g1, ⟨z, hz, g2⟩, g3⟩)
        · exact absurd g hx
        · exact ⟨by omega, ⟨z, List.mem_cons_of_mem _ hz, g2⟩, g3⟩
      · rintro ⟨g1, ⟨z, hz, g2⟩, g3⟩
        refine .inr ⟨by omega, ?_, g3⟩
        rcases List.mem_cons.1 hz with rfl | hz
        · exact absurd g2 hx
        · exact ⟨z, hz, g2⟩
theorem seg_mem (f : Int → Bool) {l : List Int} (h : asc l) (hc : ∀ y ∈ l, ∀ x, y ≤ x → (∀ z ∈ l, ¬ (y < z ∧ z ≤ x)) → f x = f y) (h0 : ∀ x, (∀ z ∈ l, x < z) → f x = false) (h1 : ∀ x, (∀ z ∈ l, z ≤ x) → f x = false) (x : Int) : memR (seg f l) x ↔ f x = true := by
  cases l with
  | nil =>
    rw [h0 x fun _ h => by cases h]
    simp [seg, memR_nil]
  | cons a l =>
    rw [seg_mem' f h hc]
    constructor
    · exact fun h => h.2.2
    · intro hf
      obtain ⟨p1, p2⟩ := List.pairwise_cons.1 h
      refine ⟨?_, ?_, hf⟩
      · rcases Int.lt_or_le x a with g | g
        · rw [h0 x fun z hz => by
            rcases List.mem_cons.1 hz with rfl | hz
            · exact g
            · have := p1 z hz; omega] at hf
          cases hf
        · exact g
      · apply Classical.byContradiction
        intro hn
        have ha : a ≤ x := by
          rcases Int.lt_or_le x a with g | g
          · rw [h0 x fun z hz => by
              rcases List.mem_cons.1 hz with rfl | hz
              · exact g
              · have := p1 z hz; omega] at hf
            cases hf
          · exact g
        rw [h1 x fun z hz => by
          rcases List.mem_cons.1 hz with rfl | hz
          · exact ha
          · rcases Int.lt_or_le x z with g | g
            · exact absurd ⟨z, hz, g⟩ hn
            · exact g] at hf
        cases hf
/-- Between the bounds of runs membership does not change. -/
theorem memB_const {A L : Rl} (hs : ∀ r ∈ A, r ∈ L) {y x : Int} (hyx : y ≤ x) (hz : ∀ z ∈ bsR L, ¬ (y < z ∧ z ≤ x)) : memB A x = memB A y := by
  rw [Bool.eq_iff_iff, memB_iff, memB_iff]
  have key : ∀ r ∈ A, (r.1 ≤ x ∧ x < r.2) ↔ (r.1 ≤ y ∧ y < r.2) := fun r hr => by
    by_cases hn : r.1 < r.2
    · have z1 := hz r.1 (bsR_mem.2 ⟨r, hs r hr, hn, .inl rfl⟩)
      have z2 := hz r.2 (bsR_mem.2 ⟨r, hs r hr, hn, .inr rfl⟩)
      omega
    · omega
  exact ⟨fun ⟨r, hr, h⟩ => ⟨r, hr, (key r hr).1 h⟩, fun ⟨r, hr, h⟩ => ⟨r, hr, (key r hr).2 h⟩⟩
theorem memB_low {A L : Rl} (hs : ∀ r ∈ A, r ∈ L) {x : Int} (hz : ∀ z ∈ bsR L, x < z) : memB A x = false := by
  rw [← Bool.not_eq_true, memB_iff]
  rintro ⟨r, hr, h1, h2⟩
  have := hz r.1 (bsR_mem.2 ⟨r, hs r hr, by omega, .inl rfl⟩)
  omega
theorem memB_high {A L : Rl} (hs : ∀ r ∈ A, r ∈ L) {x : Int} (hz : ∀ z ∈ bsR L, z ≤ x) : memB A x = false := by
  rw [← Bool.not_eq_true, memB_iff]
  rintro ⟨r, hr, h1, h2⟩
  have := hz r.2 (bsR_mem.2 ⟨r, hs r hr, by omega, .inr rfl⟩)
  omega
/-- The runs between bounds, merged, are the normal form of the set. -/
theorem seg_nf (f : Int → Bool) {l : List Int} (h : asc l) (hm : ∀ x, memR (seg f l) x ↔ f x = true) : mrgR (seg f l) = nfR (fun x => f x = true) := by
  obtain ⟨a, b⟩ := seg_ok f h
  have hlo : ∃ lo, ∀ r ∈ seg f l, lo < r.1 := by
    cases l with
    | nil => exact ⟨0, fun _ h => by cases h⟩
    | cons c l =>
      refine ⟨c - 1, fun r hr => ?_⟩
      obtain ⟨p1, _⟩ := List.pairwise_cons.1 h
      rcases List.mem_cons.1 (a r hr).2.1 with e | e
      · omega
      · have := p1 _ e; omega
  obtain ⟨lo, hlo⟩ := hlo
  rw [mrgR_nf (lo := lo) (fun r hr => ⟨(a r hr).1, hlo r hr⟩) b]
  exact nfR_congr hm
/-- What is put behind all others. -/
def putR (acc : Rl) (a b : Int) : Rl := bif (bif decide (0 < acc.length) then (lastR acc).2 == a else false) then acc.take (acc.length - 1) ++ [((lastR acc).1, b)] else acc ++ [(a, b)]
theorem putR_mst {acc : Rl} {a b : Int} (h : acc ≠ [] → (lastR acc).2 ≤ a) (hab : a < b) : putR acc a b = mstR acc (a, b) := by
  rcases List.eq_nil_or_concat acc with rfl | ⟨A, l, rfl⟩
  · rfl
  · rw [List.concat_eq_append] at *
    have h := h (by simp)
    rw [lastR_app] at h
    rw [mstR_app]
    unfold putR
    rw [lastR_app, decide_eq_true (show 0 < (A ++ [l]).length by simp)]
    by_cases e : l.2 = a
    · subst e
      rw [if_pos (Int.le_refl _), show max l.2 b = b by omega]
      simp
    · have b0 : (l.2 == a) = false := by rw [beq_eq_false_iff_ne]; exact e
      rw [if_neg (show ¬ a ≤ l.2 by omega), b0]; rfl
/-- The list up to a bound. -/
def upR (f : Int → Bool) (bs : List Int) (j : Nat) : Rl := mrgR (seg f (bs.take (j + 1)))
theorem upR_zero (f : Int → Bool) (bs : List Int) : upR f bs 0 = [] := by
  unfold upR
  cases bs with
  | nil => rfl
  | cons a l => rfl
theorem upR_succ (f : Int → Bool) {bs : List Int} (h : asc bs) {j : Nat} (hj : j + 1 < bs.length) : upR f bs (j + 1) = bif f bs[j] then putR (upR f bs j) bs[j] bs[j + 1] else upR f bs j := by
  have e1 : bs.take (j + 2) = bs.take j ++ [bs[j]] ++ [bs[j + 1]] := by
    rw [List.take_succ_eq_append_getElem hj, List.take_succ_eq_append_getElem (show j < bs.length by omega)]
  have e2 : bs.take (j + 1) = bs.take j ++ [bs[j]] := List.take_succ_eq_append_getElem (show j < bs.length by omega)
  have ha : asc (bs.take (j + 1)) := List.Pairwise.sublist (List.take_sublist _ _) h
  unfold upR
  rw [e1, seg_snoc, ← e2]
  cases hf : f bs[j]
  · simp
  · show mrgR (seg f (bs.take (j + 1)) ++ [(bs[j], bs[j + 1])]) = putR (mrgR (seg f (bs.take (j + 1)))) bs[j] bs[j + 1]
    obtain ⟨s1, s2⟩ := seg_ok f ha
    have le : ∀ y ∈ bs.take (j + 1), y ≤ bs[j] := fun y hy => by
      rw [e2] at hy
      have ha' := ha
      rw [e2] at ha'
      rcases List.mem_append.1 hy with hy | hy
      · have := (List.pairwise_append.1 ha').2.2 y hy bs[j] (by simp); omega
      · simp at hy; omega
    have hab : bs[j] < bs[j + 1] := (List.pairwise_iff_getElem.1 h) j (j + 1) (by omega) hj (by omega)
    rw [putR_mst ?_ hab]
    · unfold mrgR; rw [List.foldl_append]; rfl
    · intro hn
      have hlo : ∃ lo, lo ≤ bs[j] ∧ ∀ r ∈ seg f (bs.take (j + 1)), lo < r.1 := by
        cases hb : bs.take (j + 1) with
        | nil => exact ⟨bs[j], Int.le_refl _, fun _ h => by cases h⟩
        | cons c l =>
          refine ⟨c - 1, ?_, fun r hr => ?_⟩
          · have := le c (by rw [hb]; exact List.mem_cons_self); omega
          · rw [hb] at ha
            obtain ⟨p1, _⟩ := List.pairwise_cons.1 ha
            have hm := (s1 r (by rw [hb]; exact hr)).2.1
            rw [hb] at hm
            rcases List.mem_cons.1 hm with e | e
            · omega
            · have := p1 _ e; omega
      obtain ⟨lo, l0, l1⟩ := hlo
      obtain ⟨m1, m2, m3⟩ := mrgR_ok (lo := lo) (fun r hr => ⟨(s1 r hr).1, l1 r hr⟩) s2
      have := m3 bs[j] l0 fun r hr => le _ (s1 r hr).2.2
      revert hn this
      generalize mrgR (seg f (bs.take (j + 1))) = acc
      intro hn this
      rcases List.eq_nil_or_concat acc with rfl | ⟨A, l, rfl⟩
      · exact absurd rfl hn
      · rw [List.concat_eq_append] at *
        rw [lastR_app]
        rwa [endR_app] at this
theorem upR_last (f : Int → Bool) (bs : List Int) : upR f bs (bs.length - 1) = mrgR (seg f bs) := by
  unfold upR
  rw [List.take_of_length_le (by omega)]
theorem upR_len (f : Int → Bool) (bs : List Int) (j : Nat) : (upR f bs j).length ≤ j + 1 := by
  unfold upR
  have h1 := mrgR_len (seg f (bs.take (j + 1)))
  have h2 : ∀ l : List Int, (seg f l).length ≤ l.length := fun l => by
    induction l with
    | nil => exact Nat.le_refl _
    | cons a l ih =>
      cases l with
      | nil => simp [seg]
      | cons b l =>
        show (bif f a then (a, b) :: seg f (b :: l) else seg f (b :: l)).length ≤ _
        cases f a
        · simp only [cond_false]; simp only [List.length_cons] at ih ⊢; omega
        · simp only [cond_true, List.length_cons] at ih ⊢; omega
  have h3 := h2 (bs.take (j + 1))
  rw [List.length_take] at h3
  omega
end Go.Proofs.Ytehnepfjbaneaaa
