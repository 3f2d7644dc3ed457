/-
  Sets of integers as sorted runs: membership, normal forms, merging. No program is named here.
-/
import Derived.Test.YtehnepfjbaneaaaScn
namespace Go.Proofs.Ytehnepfjbaneaaa
abbrev Rl : Type := List (Int × Int)
def memR (L : Rl) (x : Int) : Prop := ∃ r ∈ L, r.1 ≤ x ∧ x < r.2
def memB (L : Rl) (x : Int) : Bool := L.any fun r => bif decide (r.1 ≤ x) then decide (x < r.2) else false
def Nr : Int → Rl → Prop
  | _, [] => True
  | lo, r :: L => lo < r.1 ∧ r.1 < r.2 ∧ Nr r.2 L
def endR : Int → Rl → Int
  | lo, [] => lo
  | _, r :: L => endR r.2 L
def valR (L : Rl) : Prop := Nr (-1048577) L ∧ endR (-1048577) L ≤ 1048576
noncomputable def valB (L : Rl) : Bool := @decide (valR L) (Classical.propDecidable _)
def lenR (L : Rl) : Int := (L.map fun r => r.2 - r.1).sum
theorem valB_iff {L : Rl} : valB L = true ↔ valR L := by unfold valB; simp
theorem memB_iff {L : Rl} {x : Int} : memB L x = true ↔ memR L x := by
  unfold memB memR
  rw [List.any_eq_true]
  constructor
  · rintro ⟨r, hr, h⟩
    refine ⟨r, hr, ?_⟩
    by_cases h1 : r.1 ≤ x
    · rw [decide_eq_true h1] at h
      exact ⟨h1, of_decide_eq_true h⟩
    · rw [decide_eq_false h1] at h; cases h
  · rintro ⟨r, hr, h1, h2⟩
    exact ⟨r, hr, by rw [decide_eq_true h1, decide_eq_true h2]; rfl⟩
theorem memR_nil (x : Int) : ¬ memR [] x := fun ⟨_, h, _⟩ => by cases h
theorem memR_cons {r : Int × Int} {L : Rl} {x : Int} : memR (r :: L) x ↔ (r.1 ≤ x ∧ x < r.2) ∨ memR L x := by
  unfold memR
  constructor
  · rintro ⟨q, hq, h⟩
    rcases List.mem_cons.1 hq with rfl | hq
    · exact .inl h
    · exact .inr ⟨q, hq, h⟩
  · rintro (h | ⟨q, hq, h⟩)
    · exact ⟨r, List.mem_cons_self, h⟩
    · exact ⟨q, List.mem_cons_of_mem _ hq, h⟩
theorem memR_app {A B : Rl} {x : Int} : memR (A ++ B) x ↔ memR A x ∨ memR B x := by
  induction A with
  | nil => simp [memR_nil]
  | cons a A ih => rw [List.cons_append, memR_cons, memR_cons, ih, or_assoc]
theorem Nr.gt : ∀ {L : Rl} {lo x : Int}, Nr lo L → memR L x → lo < x
  | [], _, x, _, h => absurd h (memR_nil x)
  | r :: L, lo, x, ⟨h1, h2, h3⟩, h => by
    rcases memR_cons.1 h with h | h
    · omega
    · have := Nr.gt h3 h; omega
theorem Nr.le_end : ∀ {L : Rl} {lo : Int}, Nr lo L → lo ≤ endR lo L
  | [], _, _ => Int.le_refl _
  | r :: L, lo, ⟨h1, h2, h3⟩ => by have := Nr.le_end h3; show lo ≤ endR r.2 L; omega
theorem Nr.lt_end : ∀ {L : Rl} {lo x : Int}, Nr lo L → memR L x → x < endR lo L
  | [], _, x, _, h => absurd h (memR_nil x)
  | r :: L, lo, x, ⟨h1, h2, h3⟩, h => by
    show x < endR r.2 L
    rcases memR_cons.1 h with h | h
    · have := Nr.le_end h3; omega
    · exact Nr.lt_end h3 h
theorem Nr.weak : ∀ {L : Rl} {lo lo' : Int}, Nr lo L → lo' ≤ lo → Nr lo' L
  | [], _, _, _, _ => trivial
  | r :: L, _, _, ⟨h1, h2, h3⟩, h => ⟨by omega, h2, h3⟩
theorem Nr_app : ∀ {A B : Rl} {lo : Int}, Nr lo (A ++ B) ↔ Nr lo A ∧ Nr (endR lo A) B
  | [], _, _ => by simp [Nr, endR]
  | a :: A, B, lo => by
    show _ ∧ _ ∧ Nr a.2 (A ++ B) ↔ (_ ∧ _ ∧ Nr a.2 A) ∧ Nr (endR a.2 A) B
    rw [Nr_app]
    simp only [and_assoc]
theorem endR_app : ∀ (A : Rl) (r : Int × Int) (lo : Int), endR lo (A ++ [r]) = r.2
  | [], _, _ => rfl
  | _ :: A, r, _ => endR_app A r _
theorem endR_any : ∀ (A : Rl) (lo lo' : Int), A ≠ [] → endR lo A = endR lo' A
  | [], _, _, h => absurd rfl h
  | _ :: _, _, _, _ => rfl
/-- The normal form of a set is one list. -/
theorem canon_R : ∀ {A B : Rl} {lo lo' : Int}, Nr lo A → Nr lo' B → (∀ x, memR A x ↔ memR B x) → A = B
  | [], [], _, _, _, _, _ => rfl
  | [], b :: B, _, _, _, ⟨_, h2, _⟩, h => absurd ((h b.1).2 (memR_cons.2 (.inl ⟨Int.le_refl _, h2⟩))) (memR_nil _)
  | a :: A, [], _, _, ⟨_, h2, _⟩, _, h => absurd ((h a.1).1 (memR_cons.2 (.inl ⟨Int.le_refl _, h2⟩))) (memR_nil _)
  | a :: A, b :: B, lo, lo', ⟨a1, a2, a3⟩, ⟨b1, b2, b3⟩, h => by
    have ha : b.1 ≤ a.1 := by
      rcases memR_cons.1 ((h a.1).1 (memR_cons.2 (.inl ⟨Int.le_refl _, a2⟩))) with g | g
      · omega
      · have := b3.gt g; omega
    have hb : a.1 ≤ b.1 := by
      rcases memR_cons.1 ((h b.1).2 (memR_cons.2 (.inl ⟨Int.le_refl _, b2⟩))) with g | g
      · omega
      · have := a3.gt g; omega
    have e1 : a.2 ≤ b.2 := by
      rcases Int.lt_or_le b.2 a.2 with g | g
      · rcases memR_cons.1 ((h b.2).1 (memR_cons.2 (.inl ⟨by omega, g⟩))) with k | k
        · omega
        · have := b3.gt k; omega
      · exact g
    have e2 : b.2 ≤ a.2 := by
      rcases Int.lt_or_le a.2 b.2 with g | g
      · rcases memR_cons.1 ((h a.2).2 (memR_cons.2 (.inl ⟨by omega, g⟩))) with k | k
        · omega
        · have := a3.gt k; omega
      · exact g
    have e : a = b := Prod.ext (by omega) (by omega)
    subst e
    congr 1
    refine canon_R a3 b3 fun x => ?_
    constructor
    · intro g
      rcases memR_cons.1 ((h x).1 (memR_cons.2 (.inr g))) with k | k
      · have := a3.gt g; omega
      · exact k
    · intro g
      rcases memR_cons.1 ((h x).2 (memR_cons.2 (.inr g))) with k | k
      · have := b3.gt g; omega
      · exact k
/-- The normal form of a set, if it has one. -/
noncomputable def nfR (p : Int → Prop) : Rl := @dite Rl (∃ L : Rl, (∃ lo, Nr lo L) ∧ ∀ x, memR L x ↔ p x) (Classical.propDecidable _) (fun h => h.choose) (fun _ => [])
theorem nfR_eq {p : Int → Prop} {L : Rl} {lo : Int} (h : Nr lo L) (hm : ∀ x, memR L x ↔ p x) : nfR p = L := by
  have hex : ∃ L : Rl, (∃ lo, Nr lo L) ∧ ∀ x, memR L x ↔ p x := ⟨L, ⟨lo, h⟩, hm⟩
  unfold nfR
  rw [dif_pos hex]
  obtain ⟨⟨lo', h1⟩, h2⟩ := hex.choose_spec
  exact canon_R h1 h fun x => (h2 x).trans (hm x).symm
theorem nfR_congr {p q : Int → Prop} (h : ∀ x, p x ↔ q x) : nfR p = nfR q := by rw [show p = q from funext fun x => propext (h x)]
theorem valR_nr {L : Rl} (h : valR L) : Nr (-1048577) L := h.1
theorem nfR_self {L : Rl} (h : valR L) : nfR (memR L) = L := nfR_eq h.1 fun _ => Iff.rfl
/-- Validity by places. -/
def good (lo : Int) (L : Rl) (i : Nat) (h : i < L.length) : Prop := L[i].1 < L[i].2 ∧ L[i].2 ≤ 1048576 ∧ lo < L[i].1 ∧ (∀ h0 : 0 < i, (L[i - 1]'(by omega)).2 < L[i].1)
theorem val_good : ∀ {L : Rl} {lo : Int}, lo ≤ 1048576 → ((Nr lo L ∧ endR lo L ≤ 1048576) ↔ ∀ i h, good lo L i h)
  | [], lo, hlo => by simp [Nr, endR, hlo]
  | r :: L, lo, hlo => by
    constructor
    · rintro ⟨⟨h1, h2, h3⟩, h4⟩
      have h5 := h3.le_end
      have h4 : endR r.2 L ≤ 1048576 := h4
      have ih := (val_good (L := L) (lo := r.2) (by omega)).1 ⟨h3, h4⟩
      intro i h
      cases i with
      | zero => exact ⟨h2, by show r.2 ≤ _; omega, h1, fun h0 => absurd h0 (Nat.lt_irrefl _)⟩
      | succ i =>
        have hi : i < L.length := by simpa using h
        obtain ⟨g1, g2, g3, g4⟩ := ih i hi
        refine ⟨g1, g2, by show lo < L[i].1; omega, fun _ => ?_⟩
        cases i with
        | zero => exact g3
        | succ i => exact g4 (Nat.succ_pos _)
    · intro h
      obtain ⟨g1, g2, g3, _⟩ := h 0 (by simp)
      have g1 : r.1 < r.2 := g1
      have g2 : r.2 ≤ 1048576 := g2
      have g3 : lo < r.1 := g3
      have := (val_good (L := L) (lo := r.2) g2).2 fun i hi => by
        obtain ⟨k1, k2, k3, k4⟩ := h (i + 1) (by simpa using hi)
        have k3 : lo < L[i].1 := k3
        refine ⟨k1, k2, ?_, fun h0 => ?_⟩
        · cases i with
          | zero => exact k4 (Nat.succ_pos _)
          | succ i =>
            have k5 := k4 (Nat.succ_pos _)
            have k5 : L[i].2 < L[i + 1].1 := k5
            -- all places behind lie above
            have up : ∀ j (hj : j < L.length), r.2 < L[j].1 := fun j => by
              induction j with
              | zero =>
                intro hj
                exact (h 1 (by simpa using hj)).2.2.2 (Nat.succ_pos _)
              | succ j ih =>
                intro hj
                have e1 := ih (by omega)
                have e2 := (h (j + 1) (by simp; omega)).1
                have e2 : L[j].1 < L[j].2 := e2
                have e3 := (h (j + 2) (by simp only [List.length_cons]; omega)).2.2.2 (Nat.succ_pos _)
                have e3 : L[j].2 < L[j + 1].1 := e3
                omega
            exact up _ hi
        · have k5 := k4 (Nat.succ_pos _)
          cases i with
          | zero => exact absurd h0 (Nat.lt_irrefl _)
          | succ i => exact k5
      exact ⟨⟨g3, g1, this.1⟩, this.2⟩
theorem valR_good {L : Rl} : valR L ↔ ∀ i h, good (-1048577) L i h := val_good (by omega)
/-- Sums of lengths. -/
theorem lenR_take {L : Rl} {j : Nat} (hj : j < L.length) : lenR (L.take (j + 1)) = lenR (L.take j) + (L[j].2 - L[j].1) := by
  unfold lenR
  rw [List.take_succ_eq_append_getElem hj, List.map_append, List.sum_append]
  simp
theorem good_in {L : Rl} (h : valR L) {j : Nat} (hj : j < L.length) : -1048576 ≤ L[j].1 ∧ L[j].1 < L[j].2 ∧ L[j].2 ≤ 1048576 := by
  obtain ⟨a, b, c, _⟩ := valR_good.1 h j hj
  omega
theorem lenR_bd {L : Rl} (h : valR L) : ∀ j, j ≤ L.length → 0 ≤ lenR (L.take j) ∧ lenR (L.take j) ≤ 2097152 * j
  | 0, _ => by simp [lenR]
  | j + 1, hj => by
    have ih := lenR_bd h j (by omega)
    rw [lenR_take (show j < L.length by omega)]
    have := good_in h (show j < L.length by omega)
    omega
/-- Moved bounds. -/
def mvR (L : Rl) (a b : Int) : Rl := (L.filter fun r => decide (r.1 + a < r.2 + b)).map fun r => (r.1 + a, r.2 + b)
theorem mvR_take {L : Rl} {a b : Int} {j : Nat} (hj : j < L.length) : mvR (L.take (j + 1)) a b = mvR (L.take j) a b ++ (bif decide (L[j].1 + a < L[j].2 + b) then [(L[j].1 + a, L[j].2 + b)] else []) := by
  unfold mvR
  rw [List.take_succ_eq_append_getElem hj, List.filter_append, List.map_append]
  congr 1
  simp only [List.filter_cons, List.filter_nil]
  cases decide (L[j].1 + a < L[j].2 + b) <;> rfl
theorem mvR_len (L : Rl) (a b : Int) : (mvR L a b).length ≤ L.length := by
  unfold mvR
  rw [List.length_map]
  exact List.length_filter_le _ _
/-- A run put to a list, in its order. -/
def lastR (acc : Rl) : Int × Int := acc.getD (acc.length - 1) (0, 0)
def mstR (acc : Rl) (r : Int × Int) : Rl := bif (bif decide (0 < acc.length) then decide (r.1 ≤ (lastR acc).2) else false) then acc.set (acc.length - 1) ((lastR acc).1, max (lastR acc).2 r.2) else acc ++ [r]
def mrgR (L : Rl) : Rl := L.foldl mstR []
theorem mrgR_take {L : Rl} {j : Nat} (hj : j < L.length) : mrgR (L.take (j + 1)) = mstR (mrgR (L.take j)) L[j] := by
  unfold mrgR
  rw [List.take_succ_eq_append_getElem hj, List.foldl_append]; rfl
theorem mstR_len (acc : Rl) (r : Int × Int) : (mstR acc r).length ≤ acc.length + 1 := by
  unfold mstR
  cases (bif decide (0 < acc.length) then decide (r.1 ≤ (lastR acc).2) else false)
  · simp
  · simp
theorem foldm_len : ∀ (L acc : Rl), (L.foldl mstR acc).length ≤ acc.length + L.length
  | [], acc => by simp
  | r :: L, acc => by
    have h1 := foldm_len L (mstR acc r)
    have h2 := mstR_len acc r
    simp only [List.foldl_cons, List.length_cons]
    omega
theorem mrgR_len (L : Rl) : (mrgR L).length ≤ L.length := by have := foldm_len L []; simpa [mrgR] using this
theorem lastR_app (A : Rl) (l : Int × Int) : lastR (A ++ [l]) = l := by unfold lastR; simp
theorem mstR_nil (r : Int × Int) : mstR [] r = [r] := rfl
theorem mstR_app (A : Rl) (l r : Int × Int) : mstR (A ++ [l]) r = if r.1 ≤ l.2 then A ++ [(l.1, max l.2 r.2)] else A ++ [l] ++ [r] := by
  unfold mstR
  rw [lastR_app]
  have : decide (0 < (A ++ [l]).length) = true := decide_eq_true (by simp)
  rw [this]
  by_cases h : r.1 ≤ l.2
  · rw [decide_eq_true h, if_pos h]
    show (A ++ [l]).set ((A ++ [l]).length - 1) _ = _
    simp
  · rw [decide_eq_false h, if_neg h]; rfl
/-- What putting a run does, if it does not begin ahead of the last one. -/
theorem mstR_ok {acc : Rl} {r : Int × Int} {lo : Int} (h : Nr lo acc) (hr : r.1 < r.2) (hlo : lo < r.1) (hl : acc ≠ [] → (lastR acc).1 ≤ r.1) :
    Nr lo (mstR acc r) ∧ (∀ x, memR (mstR acc r) x ↔ memR acc x ∨ (r.1 ≤ x ∧ x < r.2)) ∧ mstR acc r ≠ [] ∧ (lastR (mstR acc r)).1 ≤ r.1 ∧ endR lo (mstR acc r) = max (endR lo acc) r.2 := by
  rcases List.eq_nil_or_concat acc with rfl | ⟨A, l, rfl⟩
  · rw [mstR_nil]
    refine ⟨⟨hlo, hr, trivial⟩, fun x => ?_, by simp, Int.le_refl _, ?_⟩
    · rw [memR_cons]; simp [memR_nil]
    · show r.2 = max lo r.2; omega
  · rw [List.concat_eq_append] at *
    have hl := hl (by simp)
    rw [lastR_app] at hl
    rw [mstR_app]
    obtain ⟨h1, h2, h3, _⟩ := Nr_app.1 h
    by_cases hc : r.1 ≤ l.2
    · rw [if_pos hc]
      refine ⟨Nr_app.2 ⟨h1, h2, by show l.1 < max l.2 r.2; omega, trivial⟩, fun x => ?_, by simp, by rw [lastR_app]; exact hl, by rw [endR_app, endR_app]⟩
      rw [memR_app, memR_app, memR_cons, memR_cons]
      simp only [memR_nil, or_false]
      constructor
      · rintro (g | g)
        · exact .inl (.inl g)
        · have g : l.1 ≤ x ∧ x < max l.2 r.2 := g
          by_cases k : x < l.2
          · exact .inl (.inr ⟨g.1, k⟩)
          · exact .inr (by omega)
      · rintro ((g | g) | g)
        · exact .inl g
        · exact .inr (by show l.1 ≤ x ∧ x < max l.2 r.2; omega)
        · exact .inr (by show l.1 ≤ x ∧ x < max l.2 r.2; omega)
    · rw [if_neg hc]
      refine ⟨Nr_app.2 ⟨h, by rw [endR_app]; omega, hr, trivial⟩, fun x => ?_, by simp, by rw [lastR_app]; exact Int.le_refl _, by rw [endR_app, endR_app]; omega⟩
      rw [memR_app (A := A ++ [l])]
      rw [memR_cons]
      simp [memR_nil]
/-- Merging runs that ascend. -/
theorem foldm_ok : ∀ (L acc : Rl) (lo : Int), Nr lo acc → (∀ r ∈ L, r.1 < r.2 ∧ lo < r.1) → (acc ≠ [] → ∀ r ∈ L, (lastR acc).1 ≤ r.1) → L.Pairwise (fun a b => a.1 ≤ b.1) →
    Nr lo (L.foldl mstR acc) ∧ (∀ x, memR (L.foldl mstR acc) x ↔ memR acc x ∨ memR L x) ∧ (∀ M, endR lo acc ≤ M → (∀ r ∈ L, r.2 ≤ M) → endR lo (L.foldl mstR acc) ≤ M)
  | [], acc, lo, h, _, _, _ => ⟨h, fun x => by simp [memR_nil], fun M h _ => h⟩
  | r :: L, acc, lo, h, hr, hl, hp => by
    obtain ⟨r1, r2⟩ := hr r List.mem_cons_self
    obtain ⟨a1, a2, a3, a4, a5⟩ := mstR_ok h r1 r2 fun hn => hl hn r List.mem_cons_self
    obtain ⟨p1, p2⟩ := List.pairwise_cons.1 hp
    obtain ⟨b1, b2, b3⟩ := foldm_ok L (mstR acc r) lo a1 (fun q hq => hr q (List.mem_cons_of_mem _ hq)) (fun _ q hq => Int.le_trans a4 (p1 q hq)) p2
    refine ⟨b1, fun x => ?_, fun M h1 h2 => b3 M (by rw [a5]; have := h2 r List.mem_cons_self; omega) fun q hq => h2 q (List.mem_cons_of_mem _ hq)⟩
    rw [List.foldl_cons, b2, a2, memR_cons, or_assoc]
theorem mrgR_ok {L : Rl} {lo : Int} (hr : ∀ r ∈ L, r.1 < r.2 ∧ lo < r.1) (hp : L.Pairwise (fun a b => a.1 ≤ b.1)) : Nr lo (mrgR L) ∧ (∀ x, memR (mrgR L) x ↔ memR L x) ∧ (∀ M, lo ≤ M → (∀ r ∈ L, r.2 ≤ M) → endR lo (mrgR L) ≤ M) := by
  obtain ⟨a, b, c⟩ := foldm_ok L [] lo trivial hr (fun h => absurd rfl h) hp
  exact ⟨a, fun x => by rw [mrgR, b]; simp [memR_nil], c⟩
theorem mrgR_nf {L : Rl} {lo : Int} (hr : ∀ r ∈ L, r.1 < r.2 ∧ lo < r.1) (hp : L.Pairwise (fun a b => a.1 ≤ b.1)) : mrgR L = nfR (memR L) := (nfR_eq (mrgR_ok hr hp).1 (mrgR_ok hr hp).2.1).symm
theorem Nr.pair : ∀ {L : Rl} {lo : Int}, Nr lo L → L.Pairwise (fun a b => a.1 ≤ b.1) ∧ ∀ r ∈ L, lo < r.1 ∧ r.1 < r.2
  | [], _, _ => ⟨List.Pairwise.nil, fun _ h => by cases h⟩
  | r :: L, lo, ⟨h1, h2, h3⟩ => by
    obtain ⟨p, q⟩ := Nr.pair h3
    refine ⟨List.pairwise_cons.2 ⟨fun s hs => ?_, p⟩, fun s hs => ?_⟩
    · have := (q s hs).1; omega
    · rcases List.mem_cons.1 hs with rfl | hs
      · exact ⟨h1, h2⟩
      · have := q s hs; omega
theorem Nr.pair2 : ∀ {L : Rl} {lo : Int}, Nr lo L → L.Pairwise (fun a b => a.2 ≤ b.2)
  | [], _, _ => List.Pairwise.nil
  | r :: L, lo, ⟨h1, h2, h3⟩ => List.pairwise_cons.2 ⟨fun s hs => by have := h3.pair.2 s hs; omega, h3.pair2⟩
theorem val_ends {L : Rl} (h : valR L) (h0 : 0 < L.length) : ∀ r ∈ L, L[0].1 ≤ r.1 ∧ r.2 ≤ (L[L.length - 1]'(by omega)).2 := by
  intro r hr
  obtain ⟨i, hi, rfl⟩ := List.getElem_of_mem hr
  have p1 := h.1.pair.1
  have p2 := h.1.pair2
  rw [List.pairwise_iff_getElem] at p1 p2
  constructor
  · by_cases e : i = 0
    · subst e; exact Int.le_refl _
    · exact p1 0 i h0 hi (by omega)
  · by_cases e : i = L.length - 1
    · subst e; exact Int.le_refl _
    · exact p2 i (L.length - 1) hi (by omega) (by omega)
theorem mvR_map {L : Rl} {a b : Int} (h : ∀ r ∈ L, r.1 + a < r.2 + b) : mvR L a b = L.map fun r => (r.1 + a, r.2 + b) := by
  unfold mvR
  rw [List.filter_eq_self.2 fun r hr => decide_eq_true (h r hr)]
theorem mvR_none {L : Rl} {a b : Int} (h : ∀ r ∈ L, ¬ r.1 + a < r.2 + b) : mvR L a b = [] := by
  unfold mvR
  rw [List.filter_eq_nil_iff.2 fun r hr => by simpa using h r hr]; rfl
theorem val_in {L : Rl} (h : valR L) : ∀ r ∈ L, -1048576 ≤ r.1 ∧ r.1 < r.2 ∧ r.2 ≤ 1048576 := fun r hr => by
  obtain ⟨i, hi, rfl⟩ := List.getElem_of_mem hr
  exact good_in h hi
end Go.Proofs.Ytehnepfjbaneaaa
