/-
  Regions as rows of runs: membership, normal forms, operations. No program is named here.
-/
import Derived.Test.YtehnepfjbaneaaaRunT
import Derived.Test.YtehnepfjbaneaaaRunS
namespace Go.Proofs.Ytehnepfjbaneaaa
def opE (an : Int) (p q : Bool) : Bool := bif an == (2 : Int) then (p || q) else bif an == (1 : Int) then (p && q) else bif an == (0 : Int) then (p && !q) else false
noncomputable def chL (A B : Rl) (an : Int) : Rl := bif valB A && valB B then nfR (fun x => opE an (memB A x) (memB B x) = true) else []
theorem opE_ff (an : Int) : opE an false false = false := by
  unfold opE
  cases an == (2 : Int) <;> cases an == (1 : Int) <;> cases an == (0 : Int) <;> rfl
theorem opE_2 (p q : Bool) : opE 2 p q = (p || q) := rfl
theorem opE_1 (p q : Bool) : opE 1 p q = (p && q) := rfl
theorem opE_0 (p q : Bool) : opE 0 p q = (p && !q) := rfl
theorem cho_mem (A B : Rl) (an : Int) (x : Int) : memR (seg (fun x => opE an (memB A x) (memB B x)) (bsR (A ++ B))) x ↔ opE an (memB A x) (memB B x) = true := by
  have sA : ∀ r ∈ A, r ∈ A ++ B := fun r h => List.mem_append_left _ h
  have sB : ∀ r ∈ B, r ∈ A ++ B := fun r h => List.mem_append_right _ h
  refine seg_mem (fun x => opE an (memB A x) (memB B x)) (bsR_asc _) (fun y hy x hyx hz => ?_) (fun x hx => ?_) (fun x hx => ?_) x
  · show opE an (memB A x) (memB B x) = opE an (memB A y) (memB B y)
    rw [memB_const sA hyx hz, memB_const sB hyx hz]
  · show opE an (memB A x) (memB B x) = false
    rw [memB_low sA hx, memB_low sB hx, opE_ff]
  · show opE an (memB A x) (memB B x) = false
    rw [memB_high sA hx, memB_high sB hx, opE_ff]
theorem cho_nf (A B : Rl) (an : Int) : mrgR (seg (fun x => opE an (memB A x) (memB B x)) (bsR (A ++ B))) = nfR (fun x => opE an (memB A x) (memB B x) = true) :=
  seg_nf _ (bsR_asc _) (cho_mem A B an)
theorem ch_ok {A B : Rl} (ha : valR A) (hb : valR B) (an : Int) : valR (chL A B an) ∧ ∀ x, memB (chL A B an) x = opE an (memB A x) (memB B x) := by
  have bd : ∀ y ∈ bsR (A ++ B), -1048576 ≤ y ∧ y ≤ 1048576 := fun y hy => by
    obtain ⟨r, hr, _, h⟩ := bsR_mem.1 hy
    have : -1048576 ≤ r.1 ∧ r.1 < r.2 ∧ r.2 ≤ 1048576 := by
      rcases List.mem_append.1 hr with h | h
      · exact val_in ha r h
      · exact val_in hb r h
    rcases h with rfl | rfl <;> omega
  have e : chL A B an = mrgR (seg (fun x => opE an (memB A x) (memB B x)) (bsR (A ++ B))) := by
    unfold chL
    rw [valB_of ha, valB_of hb, cho_nf]; rfl
  have hv := seg_val (fun x => opE an (memB A x) (memB B x)) (bsR_asc (A ++ B)) bd
  rw [e]
  refine ⟨hv, fun x => ?_⟩
  obtain ⟨s1, s2⟩ := seg_ok (fun x => opE an (memB A x) (memB B x)) (bsR_asc (A ++ B))
  obtain ⟨_, m2, _⟩ := mrgR_ok (lo := -1048577) (fun r hr => ⟨(s1 r hr).1, by have := bd _ (s1 r hr).2.1; omega⟩) s2
  rw [Bool.eq_iff_iff, memB_iff, m2, cho_mem]
/-- What is in normal form and has the members of an operation is what it comes to. -/
theorem ch_eq {A B L : Rl} {lo : Int} (ha : valR A) (hb : valR B) (an : Int) (h : Nr lo L) (hm : ∀ x, memR L x ↔ opE an (memB A x) (memB B x) = true) : chL A B an = L := by
  unfold chL
  rw [valB_of ha, valB_of hb]
  exact nfR_eq h hm
/-! Regions. -/
abbrev Rg : Type := List (Int × Rl)
def rowOk (r : Int × Rl) : Prop := -4096 ≤ r.1 ∧ r.1 < 4096 ∧ r.2 ≠ [] ∧ Nr (-4097) r.2 ∧ endR (-4097) r.2 ≤ 4096
def Ng : Int → Rg → Prop
  | _, [] => True
  | lo, r :: R => lo < r.1 ∧ rowOk r ∧ Ng r.1 R
def valG (R : Rg) : Prop := Ng (-4097) R
noncomputable def valGB (R : Rg) : Bool := @decide (valG R) (Classical.propDecidable _)
theorem valGB_iff {R : Rg} : valGB R = true ↔ valG R := by unfold valGB; simp
theorem valGB_t {R : Rg} (h : valG R) : valGB R = true := valGB_iff.2 h
theorem valGB_f {R : Rg} (h : ¬ valG R) : valGB R = false := by rw [← Bool.not_eq_true]; exact fun e => h (valGB_iff.1 e)
def memG (R : Rg) (x y : Int) : Bool := R.any fun r => decide (r.1 = y) && memB r.2 x
theorem memG_nil (x y : Int) : memG [] x y = false := rfl
theorem memG_cons (r : Int × Rl) (R : Rg) (x y : Int) : memG (r :: R) x y = ((decide (r.1 = y) && memB r.2 x) || memG R x y) := List.any_cons
theorem memG_app (A B : Rg) (x y : Int) : memG (A ++ B) x y = (memG A x y || memG B x y) := List.any_append
theorem Ng.low : ∀ {R : Rg} {lo x y : Int}, Ng lo R → y ≤ lo → memG R x y = false
  | [], _, _, _, _, _ => rfl
  | r :: R, lo, x, y, ⟨h1, _, h3⟩, hy => by
    rw [memG_cons, decide_eq_false (show ¬ r.1 = y by omega), h3.low (x := x) (y := y) (by omega)]; rfl
theorem Ng.weak : ∀ {R : Rg} {lo lo' : Int}, Ng lo R → lo' ≤ lo → Ng lo' R
  | [], _, _, _, _ => trivial
  | _ :: _, _, _, ⟨h1, h2, h3⟩, h => ⟨by omega, h2, h3⟩
theorem rowOk_some {r : Int × Rl} (h : rowOk r) : ∃ x, memB r.2 x = true := by
  obtain ⟨_, _, h3, h4, _⟩ := h
  cases hr : r.2 with
  | nil => exact absurd hr h3
  | cons q L =>
    rw [hr] at h4
    exact ⟨q.1, memB_iff.2 (memR_cons.2 (.inl ⟨Int.le_refl _, h4.2.1⟩))⟩
theorem memB_ext {A B : Rl} {lo lo' : Int} (ha : Nr lo A) (hb : Nr lo' B) (h : ∀ x, memB A x = memB B x) : A = B := canon_R ha hb fun x => by rw [← memB_iff, ← memB_iff, h]
theorem canonG : ∀ {A B : Rg} {lo lo' : Int}, Ng lo A → Ng lo' B → (∀ x y, memG A x y = memG B x y) → A = B
  | [], [], _, _, _, _, _ => rfl
  | [], b :: B, _, _, _, ⟨_, h2, _⟩, h => by
    obtain ⟨x, hx⟩ := rowOk_some h2
    have := h x b.1
    rw [memG_nil, memG_cons, hx, decide_eq_true rfl] at this; cases this
  | a :: A, [], _, _, ⟨_, h2, _⟩, _, h => by
    obtain ⟨x, hx⟩ := rowOk_some h2
    have := h x a.1
    rw [memG_nil, memG_cons, hx, decide_eq_true rfl] at this; cases this
  | a :: A, b :: B, _, _, ⟨_, a2, a3⟩, ⟨_, b2, b3⟩, h => by
    have e1 : a.1 = b.1 := by
      rcases Int.lt_trichotomy a.1 b.1 with g | g | g
      · obtain ⟨x, hx⟩ := rowOk_some a2
        have := h x a.1
        rw [memG_cons, memG_cons, hx, decide_eq_true rfl, decide_eq_false (show ¬ b.1 = a.1 by omega), b3.low (by omega)] at this; cases this
      · exact g
      · obtain ⟨x, hx⟩ := rowOk_some b2
        have := h x b.1
        rw [memG_cons, memG_cons, hx, decide_eq_true rfl, decide_eq_false (show ¬ a.1 = b.1 by omega), a3.low (by omega)] at this; cases this
    have e2 : a.2 = b.2 := memB_ext a2.2.2.2.1 b2.2.2.2.1 fun x => by
      have := h x a.1
      rw [memG_cons, memG_cons, decide_eq_true rfl, decide_eq_true e1.symm, a3.low (Int.le_refl _), b3.low (by omega)] at this
      simpa using this
    have e3 : A = B := canonG a3 b3 fun x y => by
      by_cases g : y = a.1
      · rw [a3.low (by omega), b3.low (by omega)]
      · have := h x y
        rw [memG_cons, memG_cons, decide_eq_false (show ¬ a.1 = y by omega), decide_eq_false (show ¬ b.1 = y by omega)] at this
        simpa using this
    rw [e3, show a = b from Prod.ext e1 e2]
theorem end_mem : ∀ {L : Rl} {lo : Int}, Nr lo L → L ≠ [] → memR L (endR lo L - 1)
  | [], _, _, h => absurd rfl h
  | q :: L, lo, ⟨_, h2, h3⟩, _ => by
    show memR (q :: L) (endR q.2 L - 1)
    cases L with
    | nil => exact memR_cons.2 (.inl ⟨by show q.1 ≤ q.2 - 1; omega, by show q.2 - 1 < q.2; omega⟩)
    | cons r M => exact memR_cons.2 (.inr (end_mem h3 (by simp)))
theorem nr_range {L : Rl} (h : valR L) (hm : ∀ x, memB L x = true → -4096 ≤ x ∧ x < 4096) : Nr (-4097) L ∧ endR (-4097) L ≤ 4096 := by
  cases L with
  | nil => exact ⟨trivial, by decide⟩
  | cons q M =>
    have h1 : Nr (-4097) (q :: M) := ⟨by have := (hm q.1 (memB_iff.2 (memR_cons.2 (.inl ⟨Int.le_refl _, h.1.2.1⟩)))).1; omega, h.1.2⟩
    exact ⟨h1, by have := (hm _ (memB_iff.2 (end_mem h1 (by simp)))).2; omega⟩
theorem rowOk_val {r : Int × Rl} (h : rowOk r) : valR r.2 := by
  obtain ⟨_, _, h3, h4, h5⟩ := h
  exact ⟨h4.weak (by omega), by rw [endR_any r.2 _ (-4097) h3]; omega⟩
theorem rowOk_in {r : Int × Rl} (h : rowOk r) {x : Int} (hx : memB r.2 x = true) : -4096 ≤ x ∧ x < 4096 := by
  have a := h.2.2.2.1.gt (memB_iff.1 hx)
  have b := h.2.2.2.1.lt_end (memB_iff.1 hx)
  have := h.2.2.2.2
  omega
theorem valR_nil : valR [] := ⟨trivial, by decide⟩
/-- The rows of one Y, and the others. -/
def spl (R : Rg) (y : Int) : Rl × Rg :=
  match R with
  | [] => ([], [])
  | r :: R' => bif decide (r.1 = y) then (r.2, R') else ([], r :: R')
def lowG (A B : Rg) : Int :=
  match A, B with
  | [], [] => 0
  | [], b :: _ => b.1
  | a :: _, [] => a.1
  | a :: _, b :: _ => min a.1 b.1
def emit (y : Int) (l : Rl) : Rg := bif decide (0 < l.length) then [(y, l)] else []
noncomputable def combG (an : Int) : Nat → Rg → Rg → Rg
  | 0, _, _ => []
  | n + 1, A, B => bif (decide (0 < A.length) || decide (0 < B.length)) then emit (lowG A B) (chL (spl A (lowG A B)).1 (spl B (lowG A B)).1 an) ++ combG an n (spl A (lowG A B)).2 (spl B (lowG A B)).2 else []
noncomputable def opR (an : Int) (A B : Rg) : Rg := bif valGB A && valGB B then combG an (A.length + B.length) A B else []
theorem spl_ok {A : Rg} {lo y0 : Int} (h : Ng lo A) (hy : ∀ r ∈ A, y0 ≤ r.1) : Ng y0 (spl A y0).2 ∧ (∀ x, memB (spl A y0).1 x = memG A x y0) ∧ (∀ x y, y ≠ y0 → memG (spl A y0).2 x y = memG A x y) ∧ valR (spl A y0).1 ∧ (∀ x, memB (spl A y0).1 x = true → -4096 ≤ x ∧ x < 4096) ∧ (spl A y0).2.length ≤ A.length := by
  cases A with
  | nil => exact ⟨trivial, fun _ => rfl, fun _ _ _ => rfl, valR_nil, (fun x hx => by cases hx), Nat.le_refl _⟩
  | cons a A =>
    obtain ⟨h1, h2, h3⟩ := h
    by_cases g : a.1 = y0
    · have e : spl (a :: A) y0 = (a.2, A) := by
        show (bif decide (a.1 = y0) then (a.2, A) else ([], a :: A)) = _
        rw [decide_eq_true g]; rfl
      rw [e]
      refine ⟨g ▸ h3, fun x => ?_, fun x y hxy => ?_, rowOk_val h2, fun x hx => rowOk_in h2 hx, by simp⟩
      · rw [memG_cons, decide_eq_true g, h3.low (by omega)]; simp
      · rw [memG_cons, decide_eq_false (show ¬ a.1 = y by omega)]; rfl
    · have e : spl (a :: A) y0 = ([], a :: A) := by
        show (bif decide (a.1 = y0) then (a.2, A) else ([], a :: A)) = _
        rw [decide_eq_false g]; rfl
      rw [e]
      have gy : y0 < a.1 := by have := hy a (List.mem_cons_self ..); omega
      have hN : Ng y0 (a :: A) := ⟨gy, h2, h3⟩
      exact ⟨hN, fun x => (hN.low (Int.le_refl _)).symm, fun _ _ _ => rfl, valR_nil, (fun x hx => by cases hx), Nat.le_refl _⟩
theorem Ng.head : ∀ {R : Rg} {lo : Int}, Ng lo R → ∀ r ∈ R, lo < r.1
  | [], _, _, r, hr => by cases hr
  | q :: R, lo, ⟨h1, _, h3⟩, r, hr => by
    rcases List.mem_cons.1 hr with rfl | hr
    · exact h1
    · have := h3.head r hr; omega
theorem Ng.rows : ∀ {R : Rg} {lo : Int}, Ng lo R → ∀ r ∈ R, rowOk r
  | [], _, _, r, hr => by cases hr
  | q :: R, lo, ⟨_, h2, h3⟩, r, hr => by
    rcases List.mem_cons.1 hr with rfl | hr
    · exact h2
    · exact h3.rows r hr
theorem low_ok {A B : Rg} {lo : Int} (ha : Ng lo A) (hb : Ng lo B) (h : 0 < A.length ∨ 0 < B.length) : lo < lowG A B ∧ -4096 ≤ lowG A B ∧ lowG A B < 4096 ∧ (∀ r ∈ A, lowG A B ≤ r.1) ∧ (∀ r ∈ B, lowG A B ≤ r.1) ∧ (spl A (lowG A B)).2.length + (spl B (lowG A B)).2.length < A.length + B.length := by
  have hle : ∀ (r : Int × Rl) (R : Rg) (y : Int), y ≤ r.1 → Ng r.1 R → ∀ q ∈ r :: R, y ≤ q.1 := fun r R y hy hR q hq => by
    rcases List.mem_cons.1 hq with rfl | hq
    · exact hy
    · have := hR.head q hq; omega
  have se : ∀ (r : Int × Rl) (R : Rg), (spl (r :: R) r.1).2.length < (r :: R).length := fun r R => by
    show (bif decide (r.1 = r.1) then (r.2, R) else ([], r :: R)).2.length < (r :: R).length
    rw [decide_eq_true rfl]
    show R.length < R.length + 1
    omega
  have sl : ∀ (R : Rg) (y : Int), (spl R y).2.length ≤ R.length := fun R y => by
    cases R with
    | nil => exact Nat.le_refl _
    | cons r R =>
      show (bif decide (r.1 = y) then (r.2, R) else ([], r :: R)).2.length ≤ (r :: R).length
      cases decide (r.1 = y)
      · exact Nat.le_refl _
      · exact Nat.le_succ _
  cases A with
  | nil =>
    cases B with
    | nil => simp at h
    | cons b B =>
      obtain ⟨b1, b2, b3⟩ := hb
      refine ⟨b1, b2.1, b2.2.1, (fun r hr => by cases hr), hle b B _ (Int.le_refl _) b3, ?_⟩
      have := se b B
      show (spl [] b.1).2.length + (spl (b :: B) b.1).2.length < _
      have e : (spl [] b.1).2.length = 0 := rfl
      rw [e, List.length_nil]; omega
  | cons a A =>
    obtain ⟨a1, a2, a3⟩ := ha
    cases B with
    | nil =>
      refine ⟨a1, a2.1, a2.2.1, hle a A _ (Int.le_refl _) a3, (fun r hr => by cases hr), ?_⟩
      have := se a A
      show (spl (a :: A) a.1).2.length + (spl [] a.1).2.length < _
      have e : (spl [] a.1).2.length = 0 := rfl
      rw [e, List.length_nil]; omega
    | cons b B =>
      obtain ⟨b1, b2, b3⟩ := hb
      show lo < min a.1 b.1 ∧ -4096 ≤ min a.1 b.1 ∧ min a.1 b.1 < 4096 ∧ (∀ r ∈ a :: A, min a.1 b.1 ≤ r.1) ∧ (∀ r ∈ b :: B, min a.1 b.1 ≤ r.1) ∧ (spl (a :: A) (min a.1 b.1)).2.length + (spl (b :: B) (min a.1 b.1)).2.length < _
      have := a2.1; have := a2.2.1; have := b2.1; have := b2.2.1
      refine ⟨by omega, by omega, by omega, hle a A _ (by omega) a3, hle b B _ (by omega) b3, ?_⟩
      rcases (show min a.1 b.1 = a.1 ∨ min a.1 b.1 = b.1 by omega) with e | e
      · rw [e]; have := se a A; have := sl (b :: B) a.1; omega
      · rw [e]; have := se b B; have := sl (a :: A) b.1; omega
theorem comb_ok (an : Int) : ∀ (n : Nat) {A B : Rg} {lo : Int}, A.length + B.length ≤ n → Ng lo A → Ng lo B → Ng lo (combG an n A B) ∧ ∀ x y, memG (combG an n A B) x y = opE an (memG A x y) (memG B x y)
  | 0, A, B, lo, hn, _, _ => by
    have e1 : A = [] := List.length_eq_zero_iff.1 (by omega)
    have e2 : B = [] := List.length_eq_zero_iff.1 (by omega)
    subst e1 e2
    exact ⟨trivial, fun x y => (opE_ff an).symm⟩
  | n + 1, A, B, lo, hn, ha, hb => by
    by_cases g : 0 < A.length ∨ 0 < B.length
    · have gd : (decide (0 < A.length) || decide (0 < B.length)) = true := by rw [Bool.or_eq_true, decide_eq_true_eq, decide_eq_true_eq]; exact g
      obtain ⟨l1, l2, l3, l4, l5, l6⟩ := low_ok ha hb g
      obtain ⟨a1, a2, a3, a4, a5, _⟩ := spl_ok ha l4
      obtain ⟨b1, b2, b3, b4, b5, _⟩ := spl_ok hb l5
      obtain ⟨c1, c2⟩ := ch_ok a4 b4 an
      obtain ⟨i1, i2⟩ := comb_ok an n (by omega) a1 b1
      unfold combG
      rw [gd, cond_true]
      generalize lowG A B = y0 at *
      generalize combG an n (spl A y0).2 (spl B y0).2 = rest at *
      generalize chL (spl A y0).1 (spl B y0).1 an = l at *
      have hin : ∀ x, memB l x = true → -4096 ≤ x ∧ x < 4096 := fun x hx => by
        rw [c2] at hx
        cases p : memB (spl A y0).1 x
        · cases q : memB (spl B y0).1 x
          · rw [p, q, opE_ff] at hx; cases hx
          · exact b5 x q
        · exact a5 x p
      have em : memG (emit y0 l) = fun x y => decide (y0 = y) && memB l x := by
        funext x y
        unfold emit
        by_cases h0 : 0 < l.length
        · rw [decide_eq_true h0, cond_true, memG_cons, memG_nil, Bool.or_false]
        · have : l = [] := List.length_eq_zero_iff.1 (by omega)
          rw [decide_eq_false h0, cond_false, memG_nil, this]
          exact (Bool.and_false _).symm
      refine ⟨?_, fun x y => ?_⟩
      · unfold emit
        by_cases h0 : 0 < l.length
        · rw [decide_eq_true h0, cond_true]
          obtain ⟨r1, r2⟩ := nr_range c1 hin
          exact ⟨l1, ⟨l2, l3, (fun e => by have e : l = [] := e; rw [e] at h0; exact absurd h0 (by decide)), r1, r2⟩, i1⟩
        · rw [decide_eq_false h0, cond_false]
          exact i1.weak (by omega)
      · rw [memG_app, em, i2]
        show ((decide (y0 = y) && memB l x) || _) = _
        by_cases hy : y = y0
        · subst hy
          rw [a1.low (Int.le_refl _), b1.low (Int.le_refl _), opE_ff, decide_eq_true rfl, c2, a2, b2]
          simp
        · rw [decide_eq_false (show ¬ y0 = y from fun e => hy e.symm), a3 x y hy, b3 x y hy]; simp
    · have gd : (decide (0 < A.length) || decide (0 < B.length)) = false := by
        rw [← Bool.not_eq_true, Bool.or_eq_true, decide_eq_true_eq, decide_eq_true_eq]; exact g
      have e1 : A = [] := List.length_eq_zero_iff.1 (by omega)
      have e2 : B = [] := List.length_eq_zero_iff.1 (by omega)
      unfold combG
      rw [gd, cond_false]
      subst e1 e2
      exact ⟨trivial, fun x y => (opE_ff an).symm⟩
theorem combG_nil (an : Int) : ∀ n, combG an n [] [] = []
  | 0 => rfl
  | _ + 1 => rfl
theorem valG_nil : valG [] := trivial
theorem opR_val (an : Int) (A B : Rg) : valG (opR an A B) := by
  unfold opR
  cases ha : valGB A
  · exact trivial
  · cases hb : valGB B
    · exact trivial
    · exact (comb_ok an _ (Nat.le_refl _) (valGB_iff.1 ha) (valGB_iff.1 hb)).1
theorem opR_mem {A B : Rg} (ha : valG A) (hb : valG B) (an x y : Int) : memG (opR an A B) x y = opE an (memG A x y) (memG B x y) := by
  unfold opR
  rw [valGB_t ha, valGB_t hb]
  exact (comb_ok an _ (Nat.le_refl _) ha hb).2 x y
theorem val_ext {A B : Rg} (ha : valG A) (hb : valG B) (h : ∀ x y, memG A x y = memG B x y) : A = B := canonG ha hb h
theorem mem_in {R : Rg} (h : valG R) {x y : Int} (hm : memG R x y = true) : -4096 ≤ x ∧ x < 4096 ∧ -4096 ≤ y ∧ y < 4096 := by
  unfold memG at hm
  rw [List.any_eq_true] at hm
  obtain ⟨r, hr, h1⟩ := hm
  rw [Bool.and_eq_true, decide_eq_true_eq] at h1
  have k := Ng.rows h r hr
  have := rowOk_in k h1.2
  have := k.1; have := k.2.1
  omega
theorem empty_G {A : Rg} (ha : valG A) (h : ∀ x y, memG A x y = false) : A = [] := val_ext ha valG_nil h
/-! Sizes. -/
theorem nr_len : ∀ {L : Rl} {lo : Int}, Nr lo L → lo + 2 * L.length ≤ endR lo L
  | [], lo, _ => by show lo + 2 * ((0 : Nat) : Int) ≤ lo; omega
  | q :: L, lo, ⟨h1, h2, h3⟩ => by
    have := nr_len h3
    show lo + 2 * ((L.length + 1 : Nat) : Int) ≤ endR q.2 L
    omega
theorem row_len {r : Int × Rl} (h : rowOk r) : r.2.length ≤ 4096 := by
  have := nr_len h.2.2.2.1
  have := h.2.2.2.2
  omega
theorem ng_len : ∀ {R : Rg} {lo : Int}, Ng lo R → lo ≤ 4095 → lo + R.length ≤ 4095
  | [], lo, _, h => by show lo + ((0 : Nat) : Int) ≤ 4095; omega
  | q :: L, lo, ⟨h1, h2, h3⟩, _ => by
    have := ng_len h3 (by have := h2.2.1; omega)
    show lo + ((L.length + 1 : Nat) : Int) ≤ 4095
    omega
def szG (R : Rg) : Bool := decide ((R.length : Int) ≤ 9223372036854775807) && R.all fun r => decide ((r.2.length : Int) ≤ 9223372036854775807)
theorem val_sz {R : Rg} (h : valG R) : szG R = true := by
  unfold szG
  have := ng_len h (by omega)
  rw [decide_eq_true (show (R.length : Int) ≤ 9223372036854775807 by omega), Bool.true_and, List.all_eq_true]
  exact fun r hr => decide_eq_true (by have := row_len (Ng.rows h r hr); omega)
theorem sz_len {R : Rg} (h : szG R = true) : (R.length : Int) ≤ 9223372036854775807 := by
  unfold szG at h
  rw [Bool.and_eq_true, decide_eq_true_eq] at h
  exact h.1
theorem sz_row {R : Rg} (h : szG R = true) {i : Nat} (hi : i < R.length) : (R[i].2.length : Int) ≤ 9223372036854775807 := by
  unfold szG at h
  rw [Bool.and_eq_true, List.all_eq_true] at h
  exact of_decide_eq_true (h.2 _ (List.getElem_mem hi))
/-- Validity, row by row. -/
def goodG (lo : Int) (R : Rg) (i : Nat) (h : i < R.length) : Prop := rowOk R[i] ∧ lo < R[i].1 ∧ (∀ h0 : 0 < i, (R[i - 1]'(by omega)).1 < R[i].1)
theorem ng_good : ∀ {R : Rg} {lo : Int}, Ng lo R ↔ ∀ i h, goodG lo R i h
  | [], lo => ⟨fun _ i h => absurd h (by simp), fun _ => trivial⟩
  | r :: R, lo => by
    have ih := ng_good (R := R) (lo := r.1)
    constructor
    · rintro ⟨h1, h2, h3⟩ i hi
      cases i with
      | zero => exact ⟨h2, h1, fun h0 => absurd h0 (Nat.lt_irrefl _)⟩
      | succ i =>
        obtain ⟨k1, k2, k3⟩ := ih.1 h3 i (by simpa using hi)
        have hi' : i < R.length := by simpa using hi
        refine ⟨k1, by show lo < R[i].1; omega, fun _ => ?_⟩
        cases i with
        | zero => exact k2
        | succ i => exact k3 (by omega)
    · intro h
      have h0 := h 0 (by simp)
      refine ⟨h0.2.1, h0.1, ih.2 fun i hi => ?_⟩
      have hs := h (i + 1) (by simpa using hi)
      have hs3 := hs.2.2 (by omega)
      have aux : ∀ j (hj : j < R.length), r.1 < R[j].1 := by
        intro j
        induction j with
        | zero => exact fun hj => (h 1 (by simpa using hj)).2.2 (by omega)
        | succ j ihj =>
          intro hj
          have k0 := ihj (by omega)
          have k : R[j].1 < R[j + 1].1 := (h (j + 2) (by rw [List.length_cons]; omega)).2.2 (by omega)
          omega
      refine ⟨hs.1, aux i hi, fun hp => ?_⟩
      obtain ⟨i, rfl⟩ : ∃ k, i = k + 1 := ⟨i - 1, by omega⟩
      exact hs3
theorem valG_good {R : Rg} : valG R ↔ ∀ i h, goodG (-4097) R i h := ng_good
theorem room32 {n : Nat} (h : n ≤ 100000) : decide (n * (32 : Nat) ≤ maxNew) = true ∧ decide (n ≤ maxLen) = true := ⟨decide_eq_true (by unfold maxNew; omega), decide_eq_true (by unfold maxLen; omega)⟩
/-! A row's runs. -/
def fineR (L : Rl) : Prop := L ≠ [] ∧ Nr (-4097) L ∧ endR (-4097) L ≤ 4096
noncomputable def fineB (L : Rl) : Bool := @decide (fineR L) (Classical.propDecidable _)
noncomputable def rowB (y : Int) (L : Rl) : Bool := @decide (rowOk (y, L)) (Classical.propDecidable _)
theorem fineB_iff {L : Rl} : fineB L = true ↔ fineR L := by unfold fineB; simp
theorem rowB_iff {y : Int} {L : Rl} : rowB y L = true ↔ rowOk (y, L) := by unfold rowB; simp
theorem rowOk_iff {y : Int} {L : Rl} : rowOk (y, L) ↔ -4096 ≤ y ∧ y < 4096 ∧ fineR L := Iff.rfl
theorem rowB_eq (y : Int) (L : Rl) : rowB y L = (decide (-4096 ≤ y) && (decide (y < 4096) && fineB L)) := by
  rw [Bool.eq_iff_iff, rowB_iff, rowOk_iff, Bool.and_eq_true, Bool.and_eq_true, decide_eq_true_eq, decide_eq_true_eq, fineB_iff]
theorem endR_lt : ∀ {N : Int} {M : Rl} {lo : Int}, lo ≤ N → (∀ r ∈ M, r.2 ≤ N) → endR lo M ≤ N
  | _, [], _, h, _ => h
  | _, r :: M, _, _, h => endR_lt (M := M) (h r (List.mem_cons_self ..)) fun q hq => h q (List.mem_cons_of_mem _ hq)
theorem le_endR : ∀ {L : Rl} {lo : Int}, Nr lo L → ∀ r ∈ L, r.2 ≤ endR lo L
  | [], _, _, r, hr => by cases hr
  | q :: L, lo, ⟨_, _, h3⟩, r, hr => by
    rcases List.mem_cons.1 hr with rfl | hr
    · exact h3.le_end
    · exact le_endR h3 r hr
theorem fine_good {L : Rl} : (Nr (-4097) L ∧ endR (-4097) L ≤ 4096) ↔ ∀ i (h : i < L.length), good (-4097) L i h ∧ L[i].2 ≤ 4096 := by
  constructor
  · rintro ⟨h1, h2⟩ i hi
    exact ⟨(val_good (by omega)).1 ⟨h1, by omega⟩ i hi, by have := le_endR h1 _ (List.getElem_mem hi); omega⟩
  · intro h
    obtain ⟨h1, _⟩ := (val_good (lo := -4097) (by omega)).2 fun i hi => (h i hi).1
    refine ⟨h1, endR_lt (by omega) fun r hr => ?_⟩
    obtain ⟨i, hi, rfl⟩ := List.mem_iff_getElem.1 hr
    exact (h i hi).2
theorem fine_ends {L : Rl} (h : valR L) (h0 : 0 < L.length) : fineR L ↔ -4096 ≤ L[0].1 ∧ (L[L.length - 1]'(by omega)).2 ≤ 4096 := by
  have hne : L ≠ [] := fun e => by subst e; exact absurd h0 (by decide)
  constructor
  · rintro ⟨_, h1, h2⟩
    refine ⟨?_, by have := le_endR h1 _ (List.getElem_mem (show L.length - 1 < L.length by omega)); omega⟩
    cases L with
    | nil => exact absurd rfl hne
    | cons q M => have := h1.1; show -4096 ≤ q.1; omega
  · rintro ⟨h1, h2⟩
    refine ⟨hne, ?_, endR_lt (by omega) fun r hr => ?_⟩
    · cases L with
      | nil => exact absurd rfl hne
      | cons q M => exact ⟨by have : -4096 ≤ q.1 := h1; omega, h.1.2⟩
    · have := (val_ends h h0 r hr).2; omega
theorem row_in {L : Rl} (h : fineR L) : ∀ r ∈ L, -4096 ≤ r.1 ∧ r.1 < r.2 ∧ r.2 ≤ 4096 := fun r hr => by
  have a := le_endR h.2.1 r hr
  have b := h.2.1.pair.2 r hr
  have := h.2.2
  omega
/-! Counts. -/
def cntG (R : Rg) : Int := (R.map fun r => lenR r.2).sum
noncomputable def cntV (R : Rg) : Int := bif valGB R then cntG R else 0
theorem lenR_row {r : Int × Rl} (h : rowOk r) : 0 ≤ lenR r.2 ∧ lenR r.2 ≤ 2097153 := lenR_le (rowOk_val h)
theorem cntG_take {R : Rg} {j : Nat} (hj : j < R.length) : cntG (R.take (j + 1)) = cntG (R.take j) + lenR R[j].2 := by
  unfold cntG
  rw [List.take_succ_eq_append_getElem hj, List.map_append, List.sum_append]
  simp only [List.map_cons, List.map_nil, List.sum_cons, List.sum_nil, Int.add_zero]
theorem cntG_bd {R : Rg} (h : valG R) : ∀ j, j ≤ R.length → 0 ≤ cntG (R.take j) ∧ cntG (R.take j) ≤ 2097153 * j
  | 0, _ => by simp [cntG]
  | j + 1, hj => by
    have ih := cntG_bd h j (by omega)
    have := lenR_row (Ng.rows h _ (List.getElem_mem (show j < R.length by omega)))
    rw [cntG_take (by omega)]
    omega
theorem memB_of {L : Rl} {x : Int} (f : Int × Int → Bool) (hf : f = fun r => !(bif decide (r.1 ≤ x) then decide (x < r.2) else false)) : (L.all f) = !memB L x := by
  subst hf
  unfold memB
  rw [List.all_eq_not_any_not]
  simp
theorem wi2 {i n : Nat} (h : i < n) (hn : (n : Int) ≤ 9223372036854775807) : IntKind.wrap IntKind.i64 ((i : Int) + (1 : Int)) = ((i + 1 : Nat) : Int) := by
  rw [wid (by omega) (by omega)]; omega
end Go.Proofs.Ytehnepfjbaneaaa
